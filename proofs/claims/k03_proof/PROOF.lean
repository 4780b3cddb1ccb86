import PyProof.Rows.All
import Wide.All
import OpenK.AllK
import Wide.FinOn
import HandS.ForMost
import HandS.Wide
import HandS.IsInst
import HandS.DictComp
import HandS.NoneIn
import HandS.Lambda
import HandS.TryMany
import HandS.TryElse
import HandS.OwnEq
import PyProof.InstNe
import HandS.WordsExc
import HandS.ExcOwn
import HandS.IterVal
import HandS.ExcIs
import HandS.SortInts
import HandS.TupLe
import HandS.TupLen
import HandS.Sort
import KE.SortData
import KE.GoesEnum
import HandS.Deep
import HandS.TupAny
import HandS.Finally
import HandS.Style
import HandS.EndOwn
import HandS.WordsDict
import PySem.Challenge.RW_endsmeet_k03_whole_pieces
set_option Elab.async false
set_option linter.all false
set_option maxRecDepth 100000
set_option maxHeartbeats 1000000
namespace K1
open PySem PySem.Spec PyProof.Rows L2
def topS (i : Nat) : Stmt := PySem.Challenge.pw_endsmeet_k03_whole_pieces.main.body.getD i (.Pass ⟨0, 0, 0, 0⟩)
abbrev sCell : Stmt := topS 39
abbrev sDraw : Stmt := topS 40
abbrev sNumber : Stmt := topS 41
abbrev sNext : Stmt := topS 42
abbrev sPick : Stmt := topS 43
theorem scCell : FnScope ["script", "k"] ["script", "k"] (defScope sCell) := ⟨rfl, rfl, rfl, by decide +kernel, rfl, by decide +kernel, by decide +kernel⟩
theorem scDraw : FnScope ["cell", "k", "bound", "primes"] ["cell", "k", "bound"] (defScope sDraw) := ⟨rfl, rfl, rfl, by decide +kernel, rfl, by decide +kernel, by decide +kernel⟩
theorem scNumber : FnScope ["cell", "k", "bound", "power", "lap", "remains", "small"] ["cell", "k", "bound"] (defScope sNumber) := ⟨rfl, rfl, rfl, by decide +kernel, rfl, by decide +kernel, by decide +kernel⟩
theorem scNext : FnScope ["draw", "bound", "at", "cell"] ["draw", "bound"] (defScope sNext) := ⟨rfl, rfl, rfl, by decide +kernel, rfl, by decide +kernel, by decide +kernel⟩
theorem scPick : FnScope ["draw", "things"] ["draw", "things"] (defScope sPick) := ⟨rfl, rfl, rfl, by decide +kernel, rfl, by decide +kernel, by decide +kernel⟩
/-- where a def stands, by its name among the globals -/
structure D (K : PySem.W.Frag) (mg : Str → Option Value) (x : Str) (st : Stmt) (ps : List Str) (f : Addr) (fd : FuncData) : Prop where
  F : Fun K x x st f fd
  m : mg x = some (.ref f)
  b : Binds K fd ps []
theorem same_upd {H : Hp} {p : Addr} {o : HO} (h : H p = none) : Same H (upd H p o) := fun b x e => by
  rw [upd_ne (ne_of_none e h)]
  exact e
section
variable {P : Program} {w : World} {K : PySem.W.Frag} {mg : Str → Option Value} {base : Heap}
def spCell (K : PySem.W.Frag) : Sp := fun vs H Q _ => ∃ (a : Addr) (ns : List Int) (k : Int), vs = [.ref a, .int k] ∧ SqL K H a (ns.map V.int) ∧ 0 ≤ k ∧ ∀ z, Q (.int z) H
theorem ok_cell {f : Addr} {fd : FuncData} (F : Fun K "_law_cell_at" "_law_cell_at" sCell f fd) (ml : mg "len" = none) : FnOk P w K mg base CX0 1 f fd ["script", "k"] (spCell K) := by
  refine F.ok scCell (fun vs H Q E h => ?_) (fun cdv A outer s H vs Q E hr h => ?_)
  · obtain ⟨a, ns, k, rfl, _⟩ := h
    rfl
  · obtain ⟨a, ns, k, rfl, hS, hk, q⟩ := h
    refine ⟨_, pss_cons (ps_if (pt_cmpR op_lt (pv 1) (pe_callB call_len_seq (by rfl) ml PySem.boot_len (pa_cons (pv 0) pa_nil)) (nomark _)) (pss_one (ps_ret (pe_ix ix_list (pv 0) (pv 1) (fun _ _ => rfl)))) pss_nil)
      (pss_one (ps_ret pe_int)), ?_⟩
    refine ⟨_, rfl, _, rfl, a, _, rfl, .inl hS, _, _, rfl, rfl, _, rfl, ?_⟩
    refine ite2 (fun e => ?_) (fun e => ?_)
    · have e1 : k < ((ns.map V.int).length : Int) := of_decide_eq_true e
      rw [List.length_map] at e1
      have hj : k.toNat < ns.length := by omega
      refine ⟨_, rfl, _, rfl, a, _, _, .int ns[k.toNat], rfl, rfl, hS, ?_, q _⟩
      refine at_of (j := k.toNat) (by omega) ?_
      rw [List.getElem?_map, List.getElem?_eq_getElem hj]
      rfl
    · exact q 0
def spDraw : Sp := fun vs H Q _ => ∃ (c k b : Int), vs = [.int c, .int k, .int b] ∧ 0 ≤ k ∧ 0 < b ∧ ∀ r H', 0 ≤ r → r < b → Same H H' → Q (.int r) H'
theorem ok_draw {f : Addr} {fd : FuncData} (F : Fun K "_law_draw" "_law_draw" sDraw f fd) (mi : mg "int" = none) : FnOk P w K mg base CX0 1 f fd ["cell", "k", "bound"] spDraw := by
  refine F.ok scDraw (fun vs H Q E h => ?_) (fun cdv A outer s H vs Q E hr h => ?_)
  · obtain ⟨c, k, b, rfl, _⟩ := h
    rfl
  · obtain ⟨c, k, b, rfl, hk, hb, q⟩ := h
    refine ⟨_, pss_cons (ps_set (i := 3) scDraw.nd rfl (.inl rfl) (pe_tup (pa_cons pe_int (pa_cons pe_int (pa_cons pe_int (pa_cons pe_int (pa_cons pe_int (pa_cons pe_int (pa_cons pe_int (pa_cons pe_int (pa_cons pe_int (pa_cons pe_int (pa_cons pe_int (pa_cons pe_int (pa_cons pe_int (pa_cons pe_int (pa_cons pe_int (pa_cons pe_int pa_nil))))))))))))))))))
      (pss_one (ps_ret (pe_op op_mod (pe_op op_mod (pe_callTy call_int1 (by rfl) mi boot_int (pa_cons (pe_op op_add (pe_op op_mul (pv 0) pe_int) (pe_op op_mul (pv 1) pe_int)) pa_nil))
        (pe_ix ix_tup (pv 3) (pe_op op_mod (pe_callTy call_int1 (by rfl) mi boot_int (pa_cons (pv 1) pa_nil)) pe_int) (fun _ _ => rfl))) (pv 2)))), ?_⟩
    refine ⟨(by show 16 ≤ sizeLine; decide), fun p np => ?_⟩
    refine ⟨_, rfl, _, _, rfl, rfl, .inr ⟨by decide, by decide⟩, _, rfl, _, _, rfl, rfl, .inr ⟨by decide, by decide⟩, _, _, rfl, rfl, .inl ⟨_, rfl, ?_⟩⟩
    refine ⟨_, rfl, _, rfl, .inl ⟨_, rfl, _, _, rfl, rfl, (by show (0 : Int) < 16; decide), ?_⟩⟩
    obtain ⟨m, hm, hmp⟩ : ∃ m : Int, ([V.int 1000003, V.int 1000033, V.int 1000037, V.int 1000039, V.int 1000081, V.int 1000099, V.int 1000117, V.int 1000121, V.int 1000133, V.int 1000151, V.int 1000159, V.int 1000171, V.int 1000183, V.int 1000187, V.int 1000193, V.int 1000199] : List V)[(k % 16).toNat]? = some (.int m) ∧ 0 < m := by
      have h16 : (k % 16).toNat < 16 := by omega
      generalize (k % 16).toNat = j at h16
      match j, h16 with
      | 0, _ => exact ⟨_, rfl, by decide⟩
      | 1, _ => exact ⟨_, rfl, by decide⟩
      | 2, _ => exact ⟨_, rfl, by decide⟩
      | 3, _ => exact ⟨_, rfl, by decide⟩
      | 4, _ => exact ⟨_, rfl, by decide⟩
      | 5, _ => exact ⟨_, rfl, by decide⟩
      | 6, _ => exact ⟨_, rfl, by decide⟩
      | 7, _ => exact ⟨_, rfl, by decide⟩
      | 8, _ => exact ⟨_, rfl, by decide⟩
      | 9, _ => exact ⟨_, rfl, by decide⟩
      | 10, _ => exact ⟨_, rfl, by decide⟩
      | 11, _ => exact ⟨_, rfl, by decide⟩
      | 12, _ => exact ⟨_, rfl, by decide⟩
      | 13, _ => exact ⟨_, rfl, by decide⟩
      | 14, _ => exact ⟨_, rfl, by decide⟩
      | 15, _ => exact ⟨_, rfl, by decide⟩
      | n + 16, h => exact absurd h (by omega)
    refine ⟨p, _, _, .int m, rfl, rfl, SqT.of upd_same, at_of (j := (k % 16).toNat) (by omega) hm, _, _, rfl, rfl, hmp, _, rfl, _, _, rfl, rfl, hb, ?_⟩
    exact q _ _ (Int.emod_nonneg _ (by omega)) (Int.emod_lt_of_pos _ hb) (same_upd np)
end
end K1

set_option Elab.async false
set_option linter.all false
set_option maxRecDepth 100000
set_option maxHeartbeats 1000000
namespace K1
open PySem PySem.Spec PyProof.Rows L2
/-- all that is tracked stays, but what stands at d -/
def Kp (d : Addr) (H H' : Hp) : Prop := ∀ b o, b ≠ d → H b = some o → H' b = some o
theorem Kp.refl {d : Addr} {H : Hp} : Kp d H H := fun _ _ _ h => h
theorem Kp.trans {d : Addr} {H H1 H2 : Hp} (a : Kp d H H1) (b : Kp d H1 H2) : Kp d H H2 := fun c o n h => b c o n (a c o n h)
theorem Kp.of {d : Addr} {H H' : Hp} (s : Same H H') : Kp d H H' := fun b o _ h => s b o h
theorem Kp.free {d : Addr} {H H' : Hp} (e : Kp d H H') {l : Addr} (n : l ≠ d) (h : H' l = Option.none) : H l = Option.none := by
  cases q : H l with
  | none => rfl
  | some o =>
    rw [e l o n q] at h
    cases h
theorem Kp.seq {K : PySem.W.Frag} {d : Addr} {H H' : Hp} {a : Addr} {xs : List V} (e : Kp d H H') (n : a ≠ d) (h : SqL K H a xs) : SqL K H' a xs := by
  rcases h with (h | ⟨o, h⟩) | h
  · exact .inl (.inl (e _ _ n h))
  · exact .inl (.inr ⟨o, e _ _ n h⟩)
  · exact .inr h
theorem Kp.upd {d : Addr} {H : Hp} {o : HO} : Kp d H (upd H d o) := fun b u n h => by
  rw [upd_ne n]
  exact h
/-- the list of the draws at d, the script at s -/
structure DrawAt (H : Hp) (d s : Addr) : Prop where
  ex : ∃ (ns : List Int) (n : Int), H d = some (.lst [.ref s, .int 0, .int n]) ∧ H s = some (.lst (ns.map V.int)) ∧ 0 ≤ n
  ne : s ≠ d
theorem DrawAt.same {H H' : Hp} {d s : Addr} (h : DrawAt H d s) (e : Same H H') : DrawAt H' d s := by
  obtain ⟨ns, n, h1, h2, h3⟩ := h.ex
  exact ⟨⟨ns, n, e _ _ h1, e _ _ h2, h3⟩, h.ne⟩
theorem DrawAt.upd {H : Hp} {d s L : Addr} {o : HO} (h : DrawAt H d s) (n1 : L ≠ d) (n2 : L ≠ s) : DrawAt (L2.upd H L o) d s := by
  obtain ⟨ns, n, h1, h2, h3⟩ := h.ex
  exact ⟨⟨ns, n, by rw [upd_ne n1.symm]; exact h1, by rw [upd_ne n2.symm]; exact h2, h3⟩, h.ne⟩
theorem DrawAt.nd {H : Hp} {d s D : Addr} (h : DrawAt H d s) (n : H D = none) : D ≠ d := by
  obtain ⟨ns, k, h1, _⟩ := h.ex
  exact (ne_of_none h1 n).symm
theorem DrawAt.ns {H : Hp} {d s D : Addr} (h : DrawAt H d s) (n : H D = none) : D ≠ s := by
  obtain ⟨ns, k, _, h1, _⟩ := h.ex
  exact (ne_of_none h1 n).symm
section
variable {P : Program} {w : World} {K : PySem.W.Frag} {mg : Str → Option Value} {base : Heap}
def spNumber : Sp := fun vs H Q _ => ∃ (c k b : Int), vs = [.int c, .int k, .int b] ∧ 0 ≤ k ∧ k ≤ 12 ∧ 0 < b ∧ ∀ r H', 0 ≤ r → r < b → Same H H' → Q (.int r) H'
theorem pow_small {j : Nat} (h : j ≤ 23) : ((1009 : Int) ^ j).natAbs < 2 ^ 240 := by
  rw [Int.natAbs_pow]
  have h1 : (1009 : Int).natAbs ^ j ≤ 1009 ^ 23 := Nat.pow_le_pow_right (by decide) h
  exact Nat.lt_of_le_of_lt h1 (by decide)
theorem ok_number {f fD : Addr} {fd fdD : FuncData} (F : Fun K "_law_number" "_law_number" sNumber f fd) (dD : D K mg "_law_draw" sDraw ["cell", "k", "bound"] fD fdD) (mi : mg "int" = none) (mr : mg "range" = none) : FnOk P w K mg base CX0 2 f fd ["cell", "k", "bound"] spNumber := by
  have G : FnOk P w K mg base CX0 1 fD fdD ["cell", "k", "bound"] spDraw := ok_draw dD.F mi
  refine F.ok scNumber (fun vs H Q E h => ?_) (fun cdv A outer s H vs Q E hr h => ?_)
  · obtain ⟨c, k, b, rfl, _⟩ := h
    rfl
  · obtain ⟨c, k, b, rfl, hk, hk2, hb, q⟩ := h
    refine ⟨_, pss_cons (ps_set (i := 3) scNumber.nd rfl (.inl rfl) pe_int)
      (pss_cons (ps_for PassesOwn.never rfl (pi_range1 rfl mr (pa_cons (pe_op op_mod (pe_callTy call_int1 (by rfl) mi boot_int (pa_cons (pv 1) pa_nil)) pe_int) pa_nil)) (pg_name (i := 4) scNumber.nd rfl (.inl rfl))
        (pss_one (ps_set (i := 3) scNumber.nd rfl (.inl rfl) (pe_op op_mul (pv 3) pe_int))))
      (pss_cons (ps_set (i := 5) scNumber.nd rfl (.inl rfl) (pe_op op_fdivW (pe_op op_sub (pv 0) (pe_op op_pow pe_int pe_int)) (pv 3)))
      (pss_cons (ps_if (pt_cmpR op_gt (pv 5) pe_int (nomark _)) (pss_one (ps_ret (pe_op op_mod (pe_op op_mod (pe_callTy call_int1 (by rfl) mi boot_int (pa_cons (pv 5) pa_nil)) pe_int) (pv 2)))) pss_nil)
      (pss_cons (ps_set (i := 6) scNumber.nd rfl (.inl rfl) (pe_op op_mod (pe_callTy call_int1 (by rfl) mi boot_int (pa_cons (pv 0) pa_nil)) pe_int))
      (pss_one (ps_ret (pe_op op_mod (pe_call G hr (by rfl) dD.m dD.F.kp dD.b .nil pass0 (pa_cons (pe_op op_mul (pe_op op_add (pv 6) (pe_op op_mul pe_int (pv 1))) (pe_op op_add (pe_op op_add (pv 6) (pe_op op_mul pe_int (pv 1))) pe_int))
        (pa_cons (pe_op op_add (pe_op op_mod (pe_callTy call_int1 (by rfl) mi boot_int (pa_cons (pv 1) pa_nil)) pe_int) pe_int) (pa_cons pe_int pa_nil)))) (pv 2)))))))), ?_⟩
    refine ⟨_, rfl, .inl ⟨_, rfl, _, _, rfl, rfl, (by show (0 : Int) < 24; decide), k % 24, rfl, by omega, by omega, ?_⟩⟩
    have h23 : (k % 24).toNat ≤ 23 := by omega
    refine for_range (lo := 0) (n := (k % 24).toNat) (fun i σ H2 => ∃ v4, σ = [some (.int c), some (.int k), some (.int b), some (.int (1009 ^ i)), v4, none, none] ∧ H2 = H) ⟨none, rfl, rfl⟩ ?_ ?_
    · rintro i σ H2 hi ⟨v4, rfl, rfl⟩
      refine ⟨_, rfl, _, _, rfl, rfl, .inr ⟨by decide, by decide⟩, ?_⟩
      exact ⟨some (V.int (0 + (i : Int))), by rw [Int.pow_succ]; rfl, rfl⟩
    · rintro σ H2 ⟨v4, rfl, rfl⟩
      have hp := pow_small h23
      have hpos : (0 : Int) < 1009 ^ (k % 24).toNat := Int.pow_pos (by decide)
      generalize (1009 : Int) ^ (k % 24).toNat = pw at hp hpos
      refine ⟨_, rfl, _, _, rfl, rfl, ⟨by decide, by decide, by decide⟩, _, _, rfl, rfl, _, rfl, _, _, rfl, rfl, wide_div hpos hp (by decide) (by decide), ?_⟩
      refine ⟨_, rfl, _, _, rfl, rfl, _, rfl, ?_⟩
      refine ite2 (fun e => ?_) (fun e => ?_)
      · refine ⟨_, rfl, .inl ⟨_, rfl, _, _, rfl, rfl, (by show (0 : Int) < 1009; decide), _, rfl, _, _, rfl, rfl, hb, ?_⟩⟩
        exact q _ _ (Int.emod_nonneg _ (by omega)) (Int.emod_lt_of_pos _ hb) (Same.refl _)
      · refine ⟨_, rfl, .inl ⟨_, rfl, _, _, rfl, rfl, (by show (0 : Int) < 1000003; decide), ?_⟩⟩
        have a1 : 0 ≤ c % 1000003 := Int.emod_nonneg _ (by decide)
        have a2 : c % 1000003 < 1000003 := Int.emod_lt_of_pos _ (by decide)
        generalize c % 1000003 = sm at a1 a2
        refine ⟨_, rfl, _, rfl, _, _, rfl, rfl, .inl ⟨by decide, by decide⟩, _, _, rfl, rfl, _, rfl, _, rfl, _, _, rfl, rfl, .inl ⟨by decide, by decide⟩, _, _, rfl, rfl, _, _, rfl, rfl, _, _, rfl, rfl, .inl ⟨by omega, by omega⟩, ?_⟩
        refine ⟨_, rfl, .inl ⟨_, rfl, _, _, rfl, rfl, (by show (0 : Int) < 9; decide), _, _, rfl, rfl, ?_⟩⟩
        refine ⟨_, _, _, rfl, by omega, by decide, fun r H' h1 h2 sm' => ?_⟩
        refine ⟨_, rfl, _, _, rfl, rfl, hb, ?_⟩
        exact q _ _ (Int.emod_nonneg _ (by omega)) (Int.emod_lt_of_pos _ hb) sm'
def spNext : Sp := fun vs H Q _ => ∃ (d sc : Addr) (b : Int), vs = [.ref d, .int b] ∧ DrawAt H d sc ∧ 0 < b ∧ ∀ r H', 0 ≤ r → r < b → DrawAt H' d sc → Kp d H H' → Q (.int r) H'
theorem ok_next {f fC fN fD : Addr} {fd fdC fdN fdD : FuncData} (F : Fun K "_law_next" "_law_next" sNext f fd) (dC : D K mg "_law_cell_at" sCell ["script", "k"] fC fdC) (dN : D K mg "_law_number" sNumber ["cell", "k", "bound"] fN fdN) (dD : D K mg "_law_draw" sDraw ["cell", "k", "bound"] fD fdD) (ml : mg "len" = none) (mi : mg "int" = none) (mr : mg "range" = none) : FnOk P w K mg base CX0 3 f fd ["draw", "bound"] spNext := by
  have GC : FnOk P w K mg base CX0 1 fC fdC ["script", "k"] (spCell K) := ok_cell dC.F ml
  have GN : FnOk P w K mg base CX0 2 fN fdN ["cell", "k", "bound"] spNumber := ok_number dN.F dD mi mr
  refine F.ok scNext (fun vs H Q E h => ?_) (fun cdv A outer s H vs Q E hr h => ?_)
  · obtain ⟨d, sc, b, rfl, _⟩ := h
    rfl
  · obtain ⟨d, sc, b, rfl, ⟨⟨ns, n, hd, hS, hn⟩, hne⟩, hb, q⟩ := h
    have hr1 : Room 1 _ := hr.mono (by decide)
    refine ⟨_, pss_cons (ps_asg (pe_op op_add (pe_ix ix_list (pv 0) pe_int (fun _ _ => rfl)) pe_int) (pg_sub (pv 0) pe_int set_list))
      (pss_cons (ps_set (i := 2) scNext.nd rfl (.inl rfl) (pe_op op_fdiv (pe_ix ix_list (pv 0) pe_int (fun _ _ => rfl)) pe_int))
      (pss_cons (ps_set (i := 3) scNext.nd rfl (.inl rfl) (pe_op op_add (pe_call GC hr1 (by rfl) dC.m dC.F.kp dC.b .nil pass0 (pa_cons (pe_ix ix_list (pv 0) pe_int (fun _ _ => rfl)) (pa_cons (pe_op op_add (pe_ix ix_list (pv 0) pe_int (fun _ _ => rfl)) (pv 2)) pa_nil))) (pe_op op_mul pe_int (pv 2))))
      (pss_one (ps_ret (pe_call GN hr (by rfl) dN.m dN.F.kp dN.b .nil pass0 (pa_cons (pv 3) (pa_cons (pe_op op_add (pe_op op_mod (pe_callTy call_int1 (by rfl) mi boot_int (pa_cons (pe_ix ix_list (pv 0) pe_int (fun _ _ => rfl)) pa_nil)) pe_int) pe_int) (pa_cons (pv 1) pa_nil)))))))), ?_⟩
    -- draw[2] = draw[2] + 1
    refine ⟨_, rfl, d, _, 2, _, rfl, rfl, SqL.of hd, at_of (j := 2) rfl rfl, _, _, rfl, rfl, _, rfl, d, _, 2, 2, rfl, rfl, hd, rfl, ?_⟩
    have hd' : (upd H d (.lst [.ref sc, .int 0, .int (n + 1)])) d = some (.lst [.ref sc, .int 0, .int (n + 1)]) := upd_same
    have kp : Kp d H (upd H d (.lst [.ref sc, .int 0, .int (n + 1)])) := Kp.upd
    have hS' := kp _ _ hne hS
    -- at = draw[2] // 12
    refine ⟨_, rfl, d, _, 2, _, rfl, rfl, SqL.of hd', at_of (j := 2) rfl rfl, _, _, rfl, rfl, ⟨by decide, by decide⟩, ?_⟩
    -- cell
    refine ⟨_, rfl, d, _, 0, _, rfl, rfl, SqL.of hd', at_of (j := 0) rfl rfl, _, rfl, d, _, 1, _, rfl, rfl, SqL.of hd', at_of (j := 1) rfl rfl, _, rfl, _, _, rfl, rfl, ?_⟩
    refine ⟨sc, ns, _, rfl, SqL.of hS', by omega, fun z => ?_⟩
    refine ⟨_, rfl, _, _, rfl, rfl, .inl ⟨by decide, by decide⟩, _, _, rfl, rfl, ?_⟩
    refine ⟨_, rfl, _, rfl, d, _, 2, _, rfl, rfl, SqL.of hd', at_of (j := 2) rfl rfl, .inl ⟨_, rfl, _, _, rfl, rfl, (by show (0 : Int) < 12; decide), _, _, rfl, rfl, _, rfl, ?_⟩⟩
    refine ⟨_, _, _, rfl, by omega, by omega, hb, fun r H' h1 h2 sm => ?_⟩
    exact q r H' h1 h2 ⟨⟨ns, n + 1, sm _ _ hd', sm _ _ hS', by omega⟩, hne⟩ (kp.trans (Kp.of sm))
def spPick (K : PySem.W.Frag) : Sp := fun vs H Q _ => ∃ (d sc t : Addr) (xs : List V), vs = [.ref d, .ref t] ∧ DrawAt H d sc ∧ SqL K H t xs ∧ t ≠ d ∧ 0 < xs.length ∧ ∀ (i : Nat) v H', xs[i]? = some v → DrawAt H' d sc → Kp d H H' → Q v H'
theorem ok_pick {f fX : Addr} {fd fdX : FuncData} (F : Fun K "_law_pick" "_law_pick" sPick f fd) (dX : D K mg "_law_next" sNext ["draw", "bound"] fX fdX) (GX : FnOk P w K mg base CX0 3 fX fdX ["draw", "bound"] spNext) (ml : mg "len" = none) : FnOk P w K mg base CX0 4 f fd ["draw", "things"] (spPick K) := by
  refine F.ok scPick (fun vs H Q E h => ?_) (fun cdv A outer s H vs Q E hr h => ?_)
  · obtain ⟨d, sc, t, xs, rfl, _⟩ := h
    rfl
  · obtain ⟨d, sc, t, xs, rfl, hD, hT, hne, h0, q⟩ := h
    refine ⟨_, pss_one (ps_ret (pe_ix ix_list (pv 1) (pe_call GX hr (by rfl) dX.m dX.F.kp dX.b .nil pass0 (pa_cons (pv 0) (pa_cons (pe_callB call_len_seq (by rfl) ml PySem.boot_len (pa_cons (pv 1) pa_nil)) pa_nil))) (fun _ _ => rfl))), ?_⟩
    refine ⟨_, rfl, _, rfl, _, rfl, t, _, rfl, .inl hT, ?_⟩
    refine ⟨d, sc, _, rfl, hD, by omega, fun r H' h1 h2 hD' kp => ?_⟩
    have hj : r.toNat < xs.length := by omega
    have hx : xs[r.toNat]? = some xs[r.toNat] := List.getElem?_eq_getElem hj
    exact ⟨t, _, _, _, rfl, rfl, kp.seq hne hT, at_of (by omega) hx, q _ _ _ hx hD' kp⟩
end
end K1

set_option Elab.async false
set_option linter.all false
set_option maxRecDepth 100000
set_option maxHeartbeats 1000000
namespace K1
open PySem PySem.Spec PyProof.Rows L2
abbrev sWord : Stmt := topS 44

theorem scWord : FnScope ["draw", "letters", "many", "turn"] ["draw"] (defScope sWord) := ⟨rfl, rfl, rfl, by decide +kernel, rfl, by decide +kernel, by decide +kernel⟩

/-- a word: one to eight small letters -/
structure IsW (z : Str) : Prop where
  lo : 1 ≤ z.length
  hi : z.length ≤ 8
  ab : ∀ c ∈ z.cps.toList, 97 ≤ c ∧ c ≤ 122
theorem Kp.list {d D : Addr} {H H' : Hp} {xs : List V} (e : Kp d H H') (n : D ≠ d) (h : H D = some (.lst xs)) : H' D = some (.lst xs) := e D _ n h
theorem lett {j : Nat} (h : j < 26) : ∃ c, (PySem.Str.ofString "abcdefghijklmnopqrstuvwxyz").cps[j]? = some c ∧ 97 ≤ c ∧ c ≤ 122 := by
  have e : (PySem.Str.ofString "abcdefghijklmnopqrstuvwxyz").cps = #[97, 98, 99, 100, 101, 102, 103, 104, 105, 106, 107, 108, 109, 110, 111, 112, 113, 114, 115, 116, 117, 118, 119, 120, 121, 122] := by decide +kernel
  rw [e]
  refine ⟨97 + j, ?_, by omega, by omega⟩
  match j, h with
  | 0, _ | 1, _ | 2, _ | 3, _ | 4, _ | 5, _ | 6, _ | 7, _ | 8, _ | 9, _ | 10, _ | 11, _ | 12, _ | 13, _ | 14, _ | 15, _ | 16, _ | 17, _ | 18, _ | 19, _ | 20, _ | 21, _ | 22, _ | 23, _ | 24, _ | 25, _ => rfl
  | n + 26, h => exact absurd h (by omega)
theorem lett_len : (PySem.Str.ofString "abcdefghijklmnopqrstuvwxyz").length = 26 := by decide +kernel
theorem empty_cps : (PySem.Str.ofString "").cps = #[] := by decide +kernel
/-- one letter -/
def Sign (z : Str) : Prop := ∃ c, z = ⟨#[c]⟩ ∧ 97 ≤ c ∧ c ≤ 122
theorem join_signs : ∀ zs : List Str, (∀ z ∈ zs, Sign z) → (Str.join (PySem.Str.ofString "") zs).length = zs.length ∧ ∀ c ∈ (Str.join (PySem.Str.ofString "") zs).cps.toList, 97 ≤ c ∧ c ≤ 122
  | [], _ => ⟨rfl, fun c h => by
    have h : c ∈ (#[] : Array Nat).toList := h
    simp at h⟩
  | [z], h => by
    obtain ⟨c, rfl, h1, h2⟩ := h z (by simp)
    refine ⟨rfl, fun x hx => ?_⟩
    have hx : x ∈ (#[c] : Array Nat).toList := hx
    have e : x = c := by simpa using hx
    rw [e]
    exact ⟨h1, h2⟩
  | z :: y :: r, h => by
    obtain ⟨i1, i2⟩ := join_signs (y :: r) fun q hq => h q (by simp [List.mem_cons] at hq ⊢; exact .inr hq)
    obtain ⟨c, rfl, h1, h2⟩ := h z (by simp)
    have e : (Str.join (PySem.Str.ofString "") ((⟨#[c]⟩ : Str) :: y :: r)).cps = #[c] ++ #[] ++ (Str.join (PySem.Str.ofString "") (y :: r)).cps := by
      show (#[c] ++ (PySem.Str.ofString "").cps) ++ (Str.join (PySem.Str.ofString "") (y :: r)).cps = _
      rw [empty_cps]
    have i1' : (Str.join (PySem.Str.ofString "") (y :: r)).cps.size = (y :: r).length := i1
    refine ⟨?_, fun x hx => ?_⟩
    · show (Str.join (PySem.Str.ofString "") ((⟨#[c]⟩ : Str) :: y :: r)).cps.size = _
      rw [e]
      simp only [Array.size_append, i1', List.length_cons]
      simp
      omega
    · rw [e] at hx
      simp only [Array.toList_append, List.mem_append] at hx
      rcases hx with (hx | hx) | hx
      · have e2 : x = c := by simpa using hx
        rw [e2]
        exact ⟨h1, h2⟩
      · simp at hx
      · exact i2 x hx
theorem signs_word {zs : List Str} (h : ∀ z ∈ zs, Sign z) (h1 : 1 ≤ zs.length) (h2 : zs.length ≤ 8) : IsW (Txt.join (PySem.Str.ofString "") zs) := by
  rw [TL.join_eq]
  obtain ⟨a, b⟩ := join_signs zs h
  exact ⟨by omega, by omega, b⟩
theorem signs_sum : ∀ {zs : List Str}, (∀ z ∈ zs, Sign z) → (zs.map (·.length)).sum = zs.length
  | [], _ => rfl
  | z :: r, h => by
    obtain ⟨c, rfl, _⟩ := h z (by simp)
    have ih := signs_sum (zs := r) fun q hq => h q (by simp [hq])
    rw [List.map_cons, List.sum_cons, ih, List.length_cons]
    show 1 + r.length = _
    omega
section
variable {P : Program} {w : World} {K : PySem.W.Frag} {mg : Str → Option Value} {base : Heap}
def spWord : Sp := fun vs H Q _ => ∃ (d sc : Addr), vs = [.ref d] ∧ DrawAt H d sc ∧ ∀ z H', IsW z → DrawAt H' d sc → Kp d H H' → Q (.str z) H'
theorem ok_word {f fP fX : Addr} {fd fdP fdX : FuncData} (F : Fun K "_law_word" "_law_word" sWord f fd) (dP : D K mg "_law_pick" sPick ["draw", "things"] fP fdP) (GP : FnOk P w K mg base CX0 4 fP fdP ["draw", "things"] (spPick K))
    (dX : D K mg "_law_next" sNext ["draw", "bound"] fX fdX) (GX : FnOk P w K mg base CX0 3 fX fdX ["draw", "bound"] spNext) (mr : mg "range" = none) : FnOk P w K mg base CX0 5 f fd ["draw"] spWord := by
  refine F.ok scWord (fun vs H Q E h => ?_) (fun cdv A outer s H vs Q E hr h => ?_)
  · obtain ⟨d, sc, rfl, _⟩ := h
    rfl
  · obtain ⟨d, sc, rfl, hD, q⟩ := h
    have hr3 : Room 3 _ := hr.mono (by decide)
    refine ⟨_, pss_cons (ps_set (i := 1) scWord.nd rfl (.inr rfl) pe_str)
      (pss_cons (ps_set (i := 2) scWord.nd rfl (.inl rfl) (pe_call GP hr (by rfl) dP.m dP.F.kp dP.b .nil pass0 (pa_cons (pv 0) (pa_cons (pe_lst (pa_cons pe_int (pa_cons pe_int (pa_cons pe_int (pa_cons pe_int (pa_cons pe_int (pa_cons
        (pe_op op_add pe_int (pe_call GX hr3 (by rfl) dX.m dX.F.kp dX.b .nil pass0 (pa_cons (pv 0) (pa_cons pe_int pa_nil)))) pa_nil))))))) pa_nil))))
      (pss_one (ps_ret (pe_join pe_str (pe_lc (own := [("turn", 3)]) (g := gName 3) (tt := tYes) rfl scWord.nd (pi_range1 rfl mr (pa_cons (pv 2) pa_nil)) (blkOk_by (own := [("turn", 3)]) (N := ["draw", "letters", "many", "turn"]) (sc := defScope sWord) (by decide +kernel))
        (fun _ _ _ _ _ => pg_name (i := 3) scWord.nd rfl (Or.inl rfl)) (fun _ _ _ _ _ => pts_nil)
        (fun _ _ _ _ _ => pe_item_str (pv 1) (pe_call GX hr3 (by rfl) dX.m dX.F.kp dX.b .nil pass0 (pa_cons (pv 0) (pa_cons pe_int pa_nil))) (fun _ _ => rfl))))))), ?_⟩
    refine ⟨_, rfl, _, rfl, d, sc, _, rfl, hD, by decide, fun r0 H1 h1 h2 D1 k1 => ?_⟩
    refine ⟨_, _, rfl, rfl, (by show 6 ≤ sizeLine; decide), fun t nt => ?_⟩
    have ntd := D1.nd nt
    refine ⟨d, sc, t, _, rfl, D1.upd ntd (D1.ns nt), SqL.of upd_same, ntd, Nat.zero_lt_succ _, fun i v H2 hv D2 k2 => ?_⟩
    obtain ⟨m, rfl, m1, m8⟩ : ∃ m : Int, v = .int m ∧ 1 ≤ m ∧ m ≤ 8 := by
      match i, hv with
      | 0, hv | 1, hv | 2, hv | 3, hv | 4, hv => exact ⟨_, (Option.some.inj hv).symm, by decide, by decide⟩
      | 5, hv => exact ⟨1 + r0, (Option.some.inj hv).symm, by omega, by omega⟩
      | n + 6, hv => cases hv
    have kp2 : Kp d H H2 := k1.trans ((Kp.of (same_upd nt)).trans k2)
    refine ⟨⟨_, rfl⟩, .int m, rfl, m, rfl, by omega, by omega, fun L nL => ?_⟩
    have nLd := D2.nd nL
    have nLs := D2.ns nL
    refine lc_range (lo := 0) (n := m.toNat) (fun i H3 => ∃ zs : List Str, H3 L = some (.lst (zs.map V.str)) ∧ zs.length = i ∧ (∀ z ∈ zs, Sign z) ∧ DrawAt H3 d sc ∧ ∀ b o, b ≠ L → b ≠ d → H2 b = some o → H3 b = some o) ⟨[], upd_same, rfl, by simp, D2.upd nLd nLs, fun b o n1 _ e => by rw [upd_ne n1]; exact e⟩ ?_ ?_
    · rintro i H3 hi ⟨zs, e1, e2, e3, D3, k3⟩
      refine ⟨rfl, ?_⟩
      refine ⟨_, rfl, _, rfl, d, sc, _, rfl, D3, by decide, fun r H4 r1 r2 D4 k4 => ?_⟩
      obtain ⟨c, hc, c1, c2⟩ := lett (j := r.toNat) (by omega)
      refine ⟨_, _, c, rfl, rfl, r1, by omega, by rw [lett_len]; omega, hc, ?_⟩
      have e1' := k4.list nLd e1
      refine ⟨_, e1', by rw [List.length_map]; exact small1000 (by omega), zs ++ [⟨#[c]⟩], ?_, by simp [e2], ?_, D4.upd nLd nLs, ?_⟩
      · rw [upd_same, List.map_append]; rfl
      · intro z hz
        rcases List.mem_append.mp hz with hz | hz
        · exact e3 z hz
        · have : z = ⟨#[c]⟩ := by simpa using hz
          exact ⟨c, this, c1, c2⟩
      · intro b o n1 n2 e
        rw [upd_ne n1]
        exact k4 b o n2 (k3 b o n1 n2 e)
    · rintro H3 ⟨zs, e1, e2, e3, D3, k3⟩
      refine ⟨_, _, zs, rfl, rfl, .inl (SqL.of e1), ?_, ?_⟩
      · rw [signs_sum e3]
        show zs.length + zs.length * (PySem.Str.ofString "").length ≤ _
        have : (PySem.Str.ofString "").length = 0 := by decide +kernel
        rw [this]
        omega
      · exact q _ H3 (signs_word e3 (by omega) (by omega)) D3 (kp2.trans fun b o n2 e => k3 b o (ne_of_none e nL) n2 e)
end
end K1

set_option Elab.async false
set_option linter.all false
set_option maxRecDepth 100000
set_option maxHeartbeats 1000000
namespace K1
open PySem PySem.Spec PyProof.Rows L2
abbrev sVocab : Stmt := topS 45
theorem scVocab : FnScope ["draw", "many", "found", "turn", "word", "spare", "one"] ["draw", "many"] (defScope sVocab) := ⟨rfl, rfl, rfl, by decide +kernel, rfl, by decide +kernel, by decide +kernel⟩
def nine : List Str := ["b", "cd", "e", "fgh", "i", "jk", "l", "mno", "p"]
theorem nine_nd : nine.Nodup := by decide +kernel
theorem nine_w : ∀ z ∈ nine, IsW z := by
  have h : ∀ z ∈ nine, 1 ≤ z.length ∧ z.length ≤ 8 ∧ ∀ c ∈ z.cps.toList, 97 ≤ c ∧ c ≤ 122 := by decide +kernel
  exact fun z hz => ⟨(h z hz).1, (h z hz).2.1, (h z hz).2.2⟩
theorem inV_str (z : Str) : ∀ ws : List Str, inV (.str z) (ws.map V.str) = decide (z ∈ ws)
  | [] => by simp [inV]
  | y :: r => by
    have ih := inV_str z r
    unfold inV at ih ⊢
    rw [List.map_cons, List.any_cons, ih]
    show ((y == z) || decide (z ∈ r)) = decide (z ∈ y :: r)
    by_cases e : y = z
    · subst e
      simp
    · have e2 : ¬ z = y := fun q => e q.symm
      have e3 : (y == z) = false := by simpa using e
      rw [e3]
      simp [List.mem_cons, e2]
theorem sub_len {α : Type} [DecidableEq α] : ∀ {l m : List α}, l.Nodup → (∀ x ∈ l, x ∈ m) → l.length ≤ m.length
  | [], _, _, _ => Nat.zero_le _
  | a :: l, m, hn, h => by
    have ha : a ∈ m := h a (by simp)
    have hn' := List.nodup_cons.mp hn
    have ih := sub_len (l := l) (m := m.erase a) hn'.2 fun x hx => by
      have hne : x ≠ a := fun e => hn'.1 (e ▸ hx)
      exact (List.mem_erase_of_ne hne).mpr (h x (by simp [hx]))
    rw [List.length_erase_of_mem ha] at ih
    have hp : 0 < m.length := List.length_pos_of_mem ha
    rw [List.length_cons]
    omega
def fil (ws l : List Str) : List Str := l.filter fun z => !decide (z ∈ ws)
theorem fil_pos {ws : List Str} (h : ws.length < 9) : ∃ z r, fil ws nine = z :: r ∧ IsW z ∧ z ∉ ws := by
  cases e : fil ws nine with
  | nil =>
    have h2 : ∀ x ∈ nine, x ∈ ws := fun x hx => by
      have q := List.filter_eq_nil_iff.mp e x hx
      simpa using q
    have h3 := sub_len nine_nd h2
    exact absurd h3 (by show ¬ 9 ≤ _; omega)
  | cons z r =>
    have hz : z ∈ fil ws nine := by rw [e]; simp
    have h1 := List.mem_filter.mp hz
    exact ⟨z, r, rfl, nine_w z h1.1, by simpa using h1.2⟩
theorem fil_step {ws l : List Str} {i : Nat} {z : Str} (h : l[i]? = some z) : fil ws (l.take (i + 1)) = fil ws (l.take i) ++ (if z ∈ ws then [] else [z]) := by
  unfold fil
  rw [List.take_add_one, h, List.filter_append]
  congr 1
  by_cases e : z ∈ ws <;> simp [e]
/-- new words, none twice -/
structure Words (ws : List Str) : Prop where
  nd : ws.Nodup
  ok : ∀ z ∈ ws, IsW z
section
variable {P : Program} {w : World} {K : PySem.W.Frag} {mg : Str → Option Value} {base : Heap}
def spVocab : Sp := fun vs H Q _ => ∃ (d sc : Addr) (m : Int), vs = [.ref d, .int m] ∧ DrawAt H d sc ∧ 0 ≤ m ∧ m ≤ 8 ∧
  ∀ (L : Addr) (ws : List Str) (H' : Hp), Words ws → (ws.length : Int) = m → H L = none → H' L = some (.lst (ws.map V.str)) → DrawAt H' d sc → Kp d H H' → Q (.ref L) H'
theorem ok_vocab {f fW : Addr} {fd fdW : FuncData} (F : Fun K "_law_vocab" "_law_vocab" sVocab f fd) (dW : D K mg "_law_word" sWord ["draw"] fW fdW) (GW : FnOk P w K mg base CX0 5 fW fdW ["draw"] spWord)
    (mr : mg "range" = none) : FnOk P w K mg base CX0 6 f fd ["draw", "many"] spVocab := by
  refine F.ok scVocab (fun vs H Q E h => ?_) (fun cdv A outer s H vs Q E hr h => ?_)
  · obtain ⟨d, sc, m, rfl, _⟩ := h
    rfl
  · obtain ⟨d, sc, m, rfl, hD, m0, m8, q⟩ := h
    refine ⟨_, pss_cons (ps_set (i := 2) scVocab.nd rfl (.inr rfl) (pe_lst pa_nil))
      (pss_cons (ps_for PassesOwn.never rfl (pi_range1 rfl mr (pa_cons (pv 1) pa_nil)) (pg_name (i := 3) scVocab.nd rfl (.inl rfl))
        (pss_cons (ps_set (i := 4) scVocab.nd rfl (.inl rfl) (pe_call GW hr (by rfl) dW.m dW.F.kp dW.b .nil pass0 (pa_cons (pv 0) pa_nil)))
        (pss_cons (ps_setLc (i := 5) (own := [("one", 6)]) (g := gName 6) rfl scVocab.nd rfl rfl (sw_true rfl rfl rfl (by decide +kernel))
          (pi_tup (pe_tup (pa_cons pe_str (pa_cons pe_str (pa_cons pe_str (pa_cons pe_str (pa_cons pe_str (pa_cons pe_str (pa_cons pe_str (pa_cons pe_str (pa_cons pe_str pa_nil)))))))))))
          (blkOk_by (own := [("one", 6)]) (N := ["draw", "many", "found", "turn", "word", "spare", "one"]) (sc := defScope sVocab) (by decide +kernel))
          (fun _ _ _ _ _ => pg_name (i := 6) scVocab.nd rfl (Or.inl rfl)) (fun _ _ _ _ _ => pts_one (pt_cmpR (show OpR _ (compareOp .NotIn) (rIn K true) from op_notIn_seq) (pv 6) (pv 2) (by rfl))) (fun _ _ _ _ _ => pv 6))
        (pss_one (ps_expr (pe_bm PySem.F.plainAttrs_list PySem.F.slot_list_append PySem.F.type_list_append mt_append (pv 2)
          (pa_cons (pe_ifExp (pt_cmpR op_in_seq (pv 4) (pv 2) (by rfl)) (pe_ix ix_list (pv 5) pe_int (fun _ _ => rfl)) (pv 4)) pa_nil)))))))
      (pss_one (ps_ret (pv 2)))), ?_⟩
    refine ⟨Nat.zero_le _, fun L nL => ?_⟩
    have nLd := hD.nd nL
    have nLs := hD.ns nL
    refine ⟨_, rfl, m, rfl, by omega, by omega, ?_⟩
    refine for_range (lo := 0) (n := m.toNat) (fun i σ H3 => ∃ (v3 v4 v5 : Option V) (ws : List Str), σ = [some (.ref d), some (.int m), some (.ref L), v3, v4, v5, none] ∧ Words ws ∧ ws.length = i ∧ H3 L = some (.lst (ws.map V.str)) ∧ DrawAt H3 d sc ∧
      ∀ b o, b ≠ L → b ≠ d → H b = some o → H3 b = some o) ⟨none, none, none, [], rfl, ⟨List.nodup_nil, by simp⟩, rfl, upd_same, hD.upd nLd nLs, fun b o n1 _ e => by rw [upd_ne n1]; exact e⟩ ?_ ?_
    · rintro i σ H3 hi ⟨v3, v4, v5, ws, rfl, W, hl, e1, D3, k3⟩
      refine ⟨_, rfl, d, sc, rfl, D3, fun z H4 hz D4 k4 => ?_⟩
      have e4 := k4.list nLd e1
      refine ⟨(by show 9 ≤ sizeLine; decide), fun p np => ?_⟩
      have npL : p ≠ L := (ne_of_none e4 np).symm
      refine ⟨p, rfl, ⟨_, SqT.of upd_same⟩, fun S nS => ?_⟩
      have nSp : S ≠ p := fun e => by rw [e, upd_same] at nS; cases nS
      have nS4 : H4 S = none := by rw [upd_ne nSp] at nS; exact nS
      have nSL : S ≠ L := (ne_of_none e4 nS4).symm
      refine lc_tup (K := K) (a := p) (xs := nine.map V.str) (fun j H5 => H5 = upd (upd H4 p (.tup (nine.map V.str))) S (.lst ((fil ws (nine.take j)).map V.str))) rfl
        (fun j H5 _ e5 => by rw [e5]; exact SqT.of (by rw [upd_ne nSp.symm, upd_same])) ?_ ?_
      · rintro j x H5 hx rfl
        rw [List.getElem?_map] at hx
        cases hj : nine[j]? with
        | none => rw [hj] at hx; cases hx
        | some y =>
          rw [hj] at hx
          have ex : x = V.str y := (Option.some.inj hx).symm
          subst ex
          have eL : (upd (upd H4 p (.tup (nine.map V.str))) S (.lst ((fil ws (nine.take j)).map V.str))) L = some (.lst (ws.map V.str)) := by
            rw [upd_ne nSL.symm, upd_ne npL.symm]; exact e4
          refine ⟨rfl, _, rfl, _, rfl, L, _, rfl, .inl (SqL.of eL), rfl, ?_, _, rfl, ?_⟩
          · simp [flatV]
          · rw [if_pos rfl, inV_str]
            by_cases hm : y ∈ ws
            · simp only [hm, decide_true, Bool.not_true]
              refine iteF ?_
              rw [fil_step hj, if_pos hm, List.append_nil]
            · simp only [hm, decide_false, Bool.not_false]
              refine ⟨_, rfl, _, upd_same, ?_, ?_⟩
              · rw [List.length_map]
                refine small1000 (Nat.le_trans (List.length_filter_le _ _) (Nat.le_trans (List.length_take_le _ _) ?_))
                show j ≤ 1000
                have : j < 9 := (List.getElem?_eq_some_iff.mp hj).1
                omega
              · rw [upd_upd, fil_step hj, if_neg hm, List.map_append]
                rfl
      · rintro H5 rfl
        have et : (nine.map V.str).length = 9 := rfl
        rw [et, show nine.take 9 = nine from rfl]
        obtain ⟨y, r, ey, wy, ny⟩ := fil_pos (ws := ws) (by omega)
        have eL : (upd (upd H4 p (.tup (nine.map V.str))) S (.lst ((fil ws nine).map V.str))) L = some (.lst (ws.map V.str)) := by
          rw [upd_ne nSL.symm, upd_ne npL.symm]; exact e4
        have nSd := D4.nd nS4
        have nSs := D4.ns nS4
        have npd := D4.nd np
        have nps := D4.ns np
        refine ⟨_, rfl, .inl ⟨rfl, _, SqL.of eL⟩, ?_⟩
        refine ⟨_, rfl, _, rfl, L, _, rfl, .inl (SqL.of eL), rfl, by simp [flatV], _, rfl, ?_⟩
        rw [if_neg Bool.false_ne_true, inV_str]
        have fin : ∀ z' : Str, IsW z' → z' ∉ ws → ∃ l xs y', V.ref L = .ref l ∧ ([V.str z'] : List V) = [y'] ∧ (upd (upd H4 p (.tup (nine.map V.str))) S (.lst ((fil ws nine).map V.str))) l = some (.lst xs) ∧ xs.length < sizeLine ∧
            ∃ (v3' v4' v5' : Option V) (ws' : List Str), ([some (.ref d), some (.int m), some (.ref L), some (V.int (0 + (i : Int))), some (.str z), some (.ref S), none] : List (Option V)) = [some (.ref d), some (.int m), some (.ref L), v3', v4', v5', none] ∧ Words ws' ∧ ws'.length = i + 1 ∧
              (upd (upd (upd H4 p (.tup (nine.map V.str))) S (.lst ((fil ws nine).map V.str))) l (.lst (xs ++ [y']))) L = some (.lst (ws'.map V.str)) ∧ DrawAt (upd (upd (upd H4 p (.tup (nine.map V.str))) S (.lst ((fil ws nine).map V.str))) l (.lst (xs ++ [y']))) d sc ∧
              ∀ b o, b ≠ L → b ≠ d → H b = some o → (upd (upd (upd H4 p (.tup (nine.map V.str))) S (.lst ((fil ws nine).map V.str))) l (.lst (xs ++ [y']))) b = some o := fun z' w' n' => by
          refine ⟨L, _, _, rfl, rfl, eL, ?_, _, _, _, ws ++ [z'], rfl, ⟨?_, ?_⟩, by simp [hl], ?_, ?_, ?_⟩
          · rw [List.length_map]; exact small1000 (by omega)
          · exact List.nodup_append.mpr ⟨W.nd, by simp, fun a ha b hb => by
              have : b = z' := by simpa using hb
              rw [this]; exact fun e => n' (e ▸ ha)⟩
          · intro a ha
            rcases List.mem_append.mp ha with ha | ha
            · exact W.ok a ha
            · have : a = z' := by simpa using ha
              rw [this]; exact w'
          · rw [upd_same, List.map_append]; rfl
          · exact ((D4.upd npd nps).upd nSd nSs).upd nLd nLs
          · intro b o n1 n2 e
            have e4' := k4 b o n2 (k3 b o n1 n2 e)
            rw [upd_ne n1, upd_ne (ne_of_none e4' nS4), upd_ne (ne_of_none e4' np)]
            exact e4'
        by_cases hm : z ∈ ws
        · simp only [hm, decide_true]
          refine ⟨_, rfl, S, _, _, V.str y, rfl, rfl, SqL.of upd_same, at_of (j := 0) rfl (by rw [ey]; rfl), ?_⟩
          exact fin y wy ny
        · simp only [hm, decide_false]
          refine iteF ?_
          exact ⟨_, rfl, fin z hz hm⟩
    · rintro σ H3 ⟨v3, v4, v5, ws, rfl, W, hl, e1, D3, k3⟩
      refine ⟨_, rfl, ?_⟩
      exact q L ws H3 W (by omega) nL e1 D3 fun b o n e => k3 b o (ne_of_none e nL) n e
end
end K1

set_option Elab.async false
set_option linter.all false
set_option maxRecDepth 100000
set_option maxHeartbeats 1000000
namespace K1
open PySem PySem.Spec PyProof.Rows L2
abbrev sPartners : Stmt := topS 46
abbrev sBlocks : Stmt := topS 47
abbrev sSheet : Stmt := topS 48
theorem scPartners : FnScope ["draw", "many", "words", "found", "at", "one", "two"] ["draw", "many"] (defScope sPartners) := ⟨rfl, rfl, rfl, by decide +kernel, rfl, by decide +kernel, by decide +kernel⟩
theorem scBlocks : FnScope ["draw", "partners", "many", "top", "found", "kinds", "name", "ends", "turn"] ["draw", "partners", "many", "top"] (defScope sBlocks) := ⟨rfl, rfl, rfl, by decide +kernel, rfl, by decide +kernel, by decide +kernel⟩
theorem scSheet : FnScope ["draw", "joints", "many", "top", "partners"] ["draw", "joints", "many", "top"] (defScope sSheet) := ⟨rfl, rfl, rfl, by decide +kernel, rfl, by decide +kernel, by decide +kernel⟩
/-- a dict of texts -/
def pk (ps : List (Str × Str)) : List (Key × V) := ps.map fun p => (Sum.inr p.1, V.str p.2)
/-- what stands for a text -/
def look {β : Type} (ps : List (Str × β)) (a : Str) : Option β := (ps.find? fun p => decide (p.1 = a)).map (·.2)
theorem valV_map {β : Type} (g : β → V) : ∀ (ps : List (Str × β)) (a : Str), valV (ps.map fun p => ((Sum.inr p.1 : Key), g p.2)) (Sum.inr a) = (look ps a).map g
  | [], a => rfl
  | p :: r, a => by
    have ih := valV_map g r a
    unfold valV look at ih ⊢
    rw [List.map_cons, List.find?_cons, List.find?_cons]
    by_cases e : p.1 = a
    · have e1 : decide ((Sum.inr p.1 : Key) = Sum.inr a) = true := decide_eq_true (by rw [e])
      rw [e1, decide_eq_true e]
      rfl
    · have e1 : decide ((Sum.inr p.1 : Key) = Sum.inr a) = false := decide_eq_false fun q => e (Sum.inr.inj q)
      rw [e1, decide_eq_false e]
      exact ih
theorem look_none {β : Type} : ∀ {ps : List (Str × β)} {a : Str}, a ∉ ps.map (·.1) → look ps a = none
  | [], _, _ => rfl
  | p :: r, a, h => by
    have h2 : p.1 ≠ a := fun e => h (by simp [e])
    have ih := look_none (ps := r) (a := a) fun q => h (by rw [List.map_cons]; exact List.mem_cons_of_mem _ q)
    unfold look at ih ⊢
    rw [List.find?_cons, decide_eq_false h2]
    exact ih
theorem look_some {β : Type} : ∀ {ps : List (Str × β)} {p : Str × β}, (ps.map (·.1)).Nodup → p ∈ ps → look ps p.1 = some p.2
  | [], _, _, h => by cases h
  | q :: r, p, hn, h => by
    rw [List.map_cons, List.nodup_cons] at hn
    rcases List.mem_cons.mp h with e | e
    · subst e
      unfold look
      rw [List.find?_cons, decide_eq_true rfl]
      rfl
    · have h2 : q.1 ≠ p.1 := fun z => hn.1 (by rw [z]; exact List.mem_map_of_mem e)
      have ih := look_some hn.2 e
      unfold look at ih ⊢
      rw [List.find?_cons, decide_eq_false h2]
      exact ih
theorem look_mem {β : Type} : ∀ {ps : List (Str × β)} {a : Str} {b : β}, look ps a = some b → (a, b) ∈ ps
  | [], _, _, h => by cases h
  | p :: r, a, b, h => by
    unfold look at h
    rw [List.find?_cons] at h
    by_cases e : p.1 = a
    · rw [decide_eq_true e] at h
      have e2 : p.2 = b := Option.some.inj h
      rw [← e, ← e2]
      exact List.mem_cons_self
    · rw [decide_eq_false e] at h
      exact List.mem_cons_of_mem _ (look_mem h)
theorem put_map {β : Type} (g : β → V) {ps : List (Str × β)} {a : Str} (b : β) (h : a ∉ ps.map (·.1)) : putK (ps.map fun p => ((Sum.inr p.1 : Key), g p.2)) (Sum.inr a) (g b) = (ps ++ [(a, b)]).map fun p => ((Sum.inr p.1 : Key), g p.2) := by
  rw [putK_new _ (by rw [valV_map, look_none h]; rfl), List.map_append]
  rfl
theorem nd_take {α : Type} {l : List α} (hn : l.Nodup) {j : Nat} {x : α} (h : l[j]? = some x) : x ∉ l.take j := fun hm => by
  obtain ⟨i, hi, e0⟩ := List.mem_iff_getElem.mp hm
  have e : (l.take j)[i]? = some x := by rw [List.getElem?_eq_getElem hi, e0]
  have hi2 : i < j := by
    rw [List.length_take] at hi
    omega
  have e2 : l[i]? = some x := by
    rw [List.getElem?_take, if_pos hi2] at e
    exact e
  have := nd_ix hn e2 h
  omega
/-- kinds and their partners -/
structure PartOk (ps : List (Str × Str)) : Prop where
  nd : (ps.map (·.1)).Nodup
  wd : ∀ p ∈ ps, IsW p.1
  sym : ∀ p ∈ ps, (p.2, p.1) ∈ ps
section
variable {P : Program} {w : World} {K : PySem.W.Frag} {mg : Str → Option Value} {base : Heap}
def spPartners : Sp := fun vs H Q _ => ∃ (d sc : Addr) (m : Int), vs = [.ref d, .int m] ∧ DrawAt H d sc ∧ 1 ≤ m ∧ m ≤ 4 ∧
  ∀ (D : Addr) (ps : List (Str × Str)) (H' : Hp), PartOk ps → ps ≠ [] → ps.length ≤ 8 → H D = none → H' D = some (.dK (pk ps)) → DrawAt H' d sc → Kp d H H' → Q (.ref D) H'
theorem ok_partners {f fV fX : Addr} {fd fdV fdX : FuncData} (F : Fun K "_law_partners" "_law_partners" sPartners f fd) (dV : D K mg "_law_vocab" sVocab ["draw", "many"] fV fdV) (GV : FnOk P w K mg base CX0 6 fV fdV ["draw", "many"] spVocab)
    (dX : D K mg "_law_next" sNext ["draw", "bound"] fX fdX) (GX : FnOk P w K mg base CX0 3 fX fdX ["draw", "bound"] spNext) (mr : mg "range" = none) : FnOk P w K mg base CX0 7 f fd ["draw", "many"] spPartners := by
  refine F.ok scPartners (fun vs H Q E h => ?_) (fun cdv A outer s H vs Q E hr h => ?_)
  · obtain ⟨d, sc, m, rfl, _⟩ := h
    rfl
  · obtain ⟨d, sc, m, rfl, hD, m1, m4, q⟩ := h
    have hr3 : Room 3 _ := hr.mono (by decide)
    have hu := hu_of hr
    refine ⟨_, pss_cons (ps_par (i := 2) (j := 3) rfl scPartners.nd rfl rfl (by decide) rfl rfl (pa_cons (pe_call GV hr (by rfl) dV.m dV.F.kp dV.b .nil pass0 (pa_cons (pv 0) (pa_cons (pe_op op_mul pe_int (pv 1)) pa_nil))) (pa_cons pe_dnewK pa_nil)) (by rfl))
      (pss_cons (ps_for PassesOwn.never rfl (pi_range1 rfl mr (pa_cons (pv 1) pa_nil)) (pg_name (i := 4) scPartners.nd rfl (.inl rfl))
        (pss_cons (ps_par (i := 5) (j := 6) rfl scPartners.nd rfl rfl (by decide) rfl rfl (pa_cons (pe_ix ix_list (pv 2) (pe_op op_mul pe_int (pv 4)) (fun _ _ => rfl)) (pa_cons (pe_ix ix_list (pv 2) (pe_op op_add (pe_op op_mul pe_int (pv 4)) pe_int) (fun _ _ => rfl)) pa_nil)) (by rfl))
        (pss_one (ps_if (pt_cmpR op_eq (pe_call GX hr3 (by rfl) dX.m dX.F.kp dX.b .nil pass0 (pa_cons (pv 0) (pa_cons pe_int pa_nil))) pe_int (nomark _))
          (pss_one (ps_dput hu (pv 3) (pv 5) (pv 5) rfl))
          (pss_cons (ps_dput hu (pv 3) (pv 5) (pv 6) rfl) (pss_one (ps_dput hu (pv 3) (pv 6) (pv 5) rfl)))))))
      (pss_one (ps_ret (pv 3)))), ?_⟩
    refine ⟨_, rfl, _, rfl, _, _, rfl, rfl, .inl ⟨by decide, by decide⟩, d, sc, _, rfl, hD, by omega, by omega, fun L ws H1 W hl nL e1 D1 k1 => ?_⟩
    intro B nB
    have nLd := hD.nd nL
    have nBd := D1.nd nB
    have nBs := D1.ns nB
    have nBL : B ≠ L := (ne_of_none e1 nB).symm
    refine ⟨_, _, rfl, ?_⟩
    refine ⟨_, rfl, m, rfl, by omega, by omega, ?_⟩
    refine for_range (lo := 0) (n := m.toNat) (fun i σ H3 => ∃ (v4 v5 v6 : Option V) (ps : List (Str × Str)), σ = [some (.ref d), some (.int m), some (.ref L), some (.ref B), v4, v5, v6] ∧ PartOk ps ∧ (∀ p ∈ ps, p.1 ∈ ws.take (2 * i)) ∧ ps.length ≤ 2 * i ∧ (0 < i → ps ≠ []) ∧
      H3 B = some (.dK (pk ps)) ∧ DrawAt H3 d sc ∧ ∀ b o, b ≠ B → b ≠ d → H1 b = some o → H3 b = some o) ⟨none, none, none, [], rfl, ⟨List.nodup_nil, by simp, by simp⟩, by simp, Nat.le_refl _, by simp, upd_same, D1.upd nBd nBs, fun b o n1 _ e => by rw [upd_ne n1]; exact e⟩ ?_ ?_
    · rintro i σ H3 hi ⟨v4, v5, v6, ps, rfl, PO, sub, hlen, hne, eB, D3, k3⟩
      have hi1 : 2 * i < ws.length := by omega
      have hi2 : 2 * i + 1 < ws.length := by omega
      have g1 : ws[2 * i]? = some ws[2 * i] := List.getElem?_eq_getElem hi1
      have g2 : ws[2 * i + 1]? = some ws[2 * i + 1] := List.getElem?_eq_getElem hi2
      have w1 : IsW ws[2 * i] := W.ok _ (List.getElem_mem hi1)
      have w2 : IsW ws[2 * i + 1] := W.ok _ (List.getElem_mem hi2)
      have n1 := nd_take W.nd g1
      have n2 := nd_take W.nd g2
      have t2 : ws.take (2 * i + 1) = ws.take (2 * i) ++ [ws[2 * i]] := by rw [List.take_add_one, g1]; rfl
      have t3 : ws.take (2 * (i + 1)) = ws.take (2 * i) ++ [ws[2 * i]] ++ [ws[2 * i + 1]] := by
        rw [show 2 * (i + 1) = 2 * i + 1 + 1 by omega, List.take_add_one, g2, t2]; rfl
      generalize ws[2 * i] = x at *
      generalize ws[2 * i + 1] = y at *
      rw [t2] at n2
      have nx : x ∉ ps.map (·.1) := fun h => by
        obtain ⟨p, hp, e⟩ := List.mem_map.mp h
        exact n1 (e ▸ sub p hp)
      have ny : y ∉ ps.map (·.1) := fun h => by
        obtain ⟨p, hp, e⟩ := List.mem_map.mp h
        exact n2 (List.mem_append_left _ (e ▸ sub p hp))
      have nyx : y ≠ x := fun e => n2 (by rw [e]; simp)
      have eL := k3 L _ nBL.symm nLd e1
      have a1 : atI (ws.map V.str) (2 * (0 + (i : Int))) = some (V.str x) := at_of (j := 2 * i) (by omega) (by rw [List.getElem?_map, g1]; rfl)
      have a2 : atI (ws.map V.str) (2 * (0 + (i : Int)) + 1) = some (V.str y) := at_of (j := 2 * i + 1) (by omega) (by rw [List.getElem?_map, g2]; rfl)
      refine ⟨_, rfl, _, rfl, _, _, rfl, rfl, .inl ⟨by decide, by decide⟩, L, _, _, _, rfl, rfl, SqL.of eL, a1, _, rfl, _, rfl, _, _, rfl, rfl, .inl ⟨by decide, by decide⟩, _, _, rfl, rfl, L, _, _, _, rfl, rfl, SqL.of eL, a2, _, _, rfl, ?_⟩
      refine ⟨_, rfl, d, sc, _, rfl, D3, by decide, fun r H4 r1 r2 D4 k4 => ⟨rfl, _, rfl, ?_⟩⟩
      have eB4 := k4 B _ nBd eB
      refine ite2 (fun _ => ?_) (fun _ => ?_)
      · refine ⟨_, rfl, _, rfl, _, rfl, B, _, rfl, DPut.k (k := Sum.inr x) eB4 (by unfold pk; rw [List.length_map]; exact small1000 (by omega)), ?_⟩
        refine ⟨_, _, _, ps ++ [(x, x)], rfl, ⟨?_, ?_, ?_⟩, ?_, ?_, by simp, ?_, D4.upd nBd nBs, ?_⟩
        · rw [List.map_append]
          exact List.nodup_append.mpr ⟨PO.nd, by simp, fun a ha b hb => by
            have : b = x := by simpa using hb
            rw [this]; exact fun e => nx (e ▸ ha)⟩
        · intro p hp
          rcases List.mem_append.mp hp with hp | hp
          · exact PO.wd p hp
          · have : p = (x, x) := by simpa using hp
            rw [this]; exact w1
        · intro p hp
          rcases List.mem_append.mp hp with hp | hp
          · exact List.mem_append_left _ (PO.sym p hp)
          · have : p = (x, x) := by simpa using hp
            rw [this]; exact List.mem_append_right _ (by simp)
        · intro p hp
          rw [t3]
          rcases List.mem_append.mp hp with hp | hp
          · exact List.mem_append_left _ (List.mem_append_left _ (sub p hp))
          · have : p = (x, x) := by simpa using hp
            rw [this]; exact List.mem_append_left _ (List.mem_append_right _ (by simp))
        · rw [List.length_append]; simp; omega
        · rw [upd_same]
          exact congrArg (fun l => some (HO.dK l)) (put_map V.str x nx)
        · intro b o n1 n2 e
          rw [upd_ne n1]
          exact k4 b o n2 (k3 b o n1 n2 e)
      · have hz : (pk ps).length < sizeLine := by unfold pk; rw [List.length_map]; exact small1000 (by omega)
        have p1 : putK (pk ps) (Sum.inr x) (V.str y) = pk (ps ++ [(x, y)]) := put_map V.str y nx
        have ny2 : y ∉ (ps ++ [(x, y)]).map (·.1) := by
          rw [List.map_append, List.mem_append]
          rintro (h | h)
          · exact ny h
          · exact nyx (by simpa using h)
        have p2 : putK (pk (ps ++ [(x, y)])) (Sum.inr y) (V.str x) = pk (ps ++ [(x, y)] ++ [(y, x)]) := put_map V.str x ny2
        refine ⟨_, rfl, _, rfl, _, rfl, B, _, rfl, DPut.k (k := Sum.inr x) eB4 hz, ?_⟩
        rw [p1]
        refine ⟨_, rfl, _, rfl, _, rfl, B, _, rfl, DPut.k (k := Sum.inr y) upd_same (by unfold pk; rw [List.length_map, List.length_append]; exact small1000 (by simp; omega)), ?_⟩
        rw [p2, upd_upd]
        refine ⟨_, _, _, ps ++ [(x, y)] ++ [(y, x)], rfl, ⟨?_, ?_, ?_⟩, ?_, ?_, by simp, upd_same, D4.upd nBd nBs, ?_⟩
        · rw [List.map_append]
          refine List.nodup_append.mpr ⟨?_, by simp, fun a ha b hb => by
            have : b = y := by simpa using hb
            rw [this]; exact fun e => ny2 (e ▸ ha)⟩
          rw [List.map_append]
          exact List.nodup_append.mpr ⟨PO.nd, by simp, fun a ha b hb => by
            have : b = x := by simpa using hb
            rw [this]; exact fun e => nx (e ▸ ha)⟩
        · intro p hp
          rcases List.mem_append.mp hp with hp | hp
          · rcases List.mem_append.mp hp with hp | hp
            · exact PO.wd p hp
            · have : p = (x, y) := by simpa using hp
              rw [this]; exact w1
          · have : p = (y, x) := by simpa using hp
            rw [this]; exact w2
        · intro p hp
          rcases List.mem_append.mp hp with hp | hp
          · rcases List.mem_append.mp hp with hp | hp
            · exact List.mem_append_left _ (List.mem_append_left _ (PO.sym p hp))
            · have : p = (x, y) := by simpa using hp
              rw [this]; exact List.mem_append_right _ (by simp)
          · have : p = (y, x) := by simpa using hp
            rw [this]; exact List.mem_append_left _ (List.mem_append_right _ (by simp))
        · intro p hp
          rw [t3]
          rcases List.mem_append.mp hp with hp | hp
          · rcases List.mem_append.mp hp with hp | hp
            · exact List.mem_append_left _ (List.mem_append_left _ (sub p hp))
            · have : p = (x, y) := by simpa using hp
              rw [this]; exact List.mem_append_left _ (List.mem_append_right _ (by simp))
          · have : p = (y, x) := by simpa using hp
            rw [this]; exact List.mem_append_right _ (by simp)
        · rw [List.length_append, List.length_append]; simp; omega
        · intro b o n1 n2 e
          rw [upd_ne n1]
          exact k4 b o n2 (k3 b o n1 n2 e)
    · rintro σ H3 ⟨v4, v5, v6, ps, rfl, PO, sub, hlen, hne, eB, D3, k3⟩
      refine ⟨_, rfl, ?_⟩
      have nB0 : H B = none := k1.free nBd nB
      exact q B ps H3 PO (hne (by omega)) (by omega) nB0 eB D3 fun b o n e => k3 b o (ne_of_none e nB0) n (k1 b o n e)
end
end K1

set_option Elab.async false
set_option linter.all false
set_option maxRecDepth 100000
set_option maxHeartbeats 1000000
namespace K1
open PySem PySem.Spec PyProof.Rows L2
/-- a dict of blocks: names to tuples -/
def bk (bs : List (Str × Addr)) : List (Key × V) := bs.map fun p => (Sum.inr p.1, V.ref p.2)
/-- the ends of a block -/
def Ends (H : Hp) (ps : List (Str × Str)) (t : Addr) (es : List Str) : Prop := H t = some (.tup (es.map V.str)) ∧ 1 ≤ es.length ∧ es.length ≤ 4 ∧ ∀ e ∈ es, e ∈ ps.map (·.1)
structure BlkOk (H : Hp) (ps : List (Str × Str)) (bs : List (Str × Addr)) : Prop where
  nd : (bs.map (·.1)).Nodup
  wd : ∀ p ∈ bs, IsW p.1
  tup : ∀ p ∈ bs, ∃ es, Ends H ps p.2 es
theorem BlkOk.same {H H' : Hp} {ps : List (Str × Str)} {bs : List (Str × Addr)} (h : BlkOk H ps bs) (k : ∀ b xs, H b = some (.tup xs) → H' b = some (.tup xs)) : BlkOk H' ps bs :=
  ⟨h.nd, h.wd, fun p hp => by
    obtain ⟨es, e1, e2⟩ := h.tup p hp
    exact ⟨es, k _ _ e1, e2⟩⟩
/-- tuples stay -/
def TupK (H H' : Hp) : Prop := ∀ b xs, H b = some (.tup xs) → H' b = some (.tup xs)
theorem Kp.tup {d sc : Addr} {H H' : Hp} (k : Kp d H H') (h : DrawAt H d sc) : TupK H H' := fun b xs e => k b _ (fun z => by
  obtain ⟨ns, n, h1, _⟩ := h.ex
  rw [z, h1] at e
  cases e) e
section
variable {P : Program} {w : World} {K : PySem.W.Frag} {mg : Str → Option Value} {base : Heap}
def spBlocks : Sp := fun vs H Q _ => ∃ (d sc pd : Addr) (m t : Int) (ps : List (Str × Str)), vs = [.ref d, .ref pd, .int m, .int t] ∧ DrawAt H d sc ∧ H pd = some (.dK (pk ps)) ∧ ps ≠ [] ∧ ps.length ≤ 8 ∧ 1 ≤ m ∧ m ≤ 8 ∧ 1 ≤ t ∧ t ≤ 4 ∧
  ∀ (B : Addr) (bs : List (Str × Addr)) (H' : Hp), BlkOk H' ps bs → bs ≠ [] → bs.length ≤ 8 → H B = none → H' B = some (.dK (bk bs)) → DrawAt H' d sc → Kp d H H' → Q (.ref B) H'
theorem ok_blocks {f fV fX fP : Addr} {fd fdV fdX fdP : FuncData} (F : Fun K "_law_blocks" "_law_blocks" sBlocks f fd) (dV : D K mg "_law_vocab" sVocab ["draw", "many"] fV fdV) (GV : FnOk P w K mg base CX0 6 fV fdV ["draw", "many"] spVocab)
    (dX : D K mg "_law_next" sNext ["draw", "bound"] fX fdX) (GX : FnOk P w K mg base CX0 3 fX fdX ["draw", "bound"] spNext) (dP : D K mg "_law_pick" sPick ["draw", "things"] fP fdP) (GP : FnOk P w K mg base CX0 4 fP fdP ["draw", "things"] (spPick K))
    (mr : mg "range" = none) (ml : mg "list" = none) (mt : mg "tuple" = none) : FnOk P w K mg base CX0 7 f fd ["draw", "partners", "many", "top"] spBlocks := by
  refine F.ok scBlocks (fun vs H Q E h => ?_) (fun cdv A outer s H vs Q E hr h => ?_)
  · obtain ⟨d, sc, pd, m, t, ps, rfl, _⟩ := h
    rfl
  · obtain ⟨d, sc, pd, m, t, ps, rfl, hD, hpd, hne, hpl, m1, m8, t1, t4, q⟩ := h
    have hr3 : Room 3 _ := hr.mono (by decide)
    have hr4 : Room 4 _ := hr.mono (by decide)
    have hu := hu_of hr
    refine ⟨_, pss_cons (ps_asg (pe_tup (pa_cons pe_dnewK (pa_cons (pe_callTy (call_listD rfl) (by rfl) ml (by decide +kernel) (pa_cons (pv 1) pa_nil)) pa_nil))) (pg_tup rfl (pgs_cons (pg_name (i := 4) scBlocks.nd rfl (.inl rfl)) (pgs_cons (pg_name (i := 5) scBlocks.nd rfl (.inr rfl)) pgs_nil))))
      (pss_cons (ps_for PassesOwn.never rfl (pi_list (pe_call GV hr (by rfl) dV.m dV.F.kp dV.b .nil pass0 (pa_cons (pv 0) (pa_cons (pv 2) pa_nil)))) (pg_name (i := 6) scBlocks.nd rfl (.inl rfl))
        (pss_cons (ps_set (i := 7) scBlocks.nd rfl (.inl rfl) (pe_op op_add pe_int (pe_call GX hr3 (by rfl) dX.m dX.F.kp dX.b .nil pass0 (pa_cons (pv 0) (pa_cons (pv 3) pa_nil)))))
        (pss_one (ps_dput hu (pv 4) (pv 6) (pe_callTy call_tuple_of (by rfl) mt (by decide +kernel) (pa_cons
          (pe_lc (own := [("turn", 8)]) (g := gName 8) (tt := tYes) rfl scBlocks.nd (pi_range1 rfl mr (pa_cons (pv 7) pa_nil)) (blkOk_by (own := [("turn", 8)]) (N := ["draw", "partners", "many", "top", "found", "kinds", "name", "ends", "turn"]) (sc := defScope sBlocks) (by decide +kernel))
            (fun _ _ _ _ _ => pg_name (i := 8) scBlocks.nd rfl (Or.inl rfl)) (fun _ _ _ _ _ => pts_nil)
            (fun _ _ _ _ _ => pe_call GP hr4 (by rfl) dP.m dP.F.kp dP.b .nil pass0 (pa_cons (pv 0) (pa_cons (pv 5) pa_nil)))) pa_nil)) rfl))))
      (pss_one (ps_ret (pv 4)))), ?_⟩
    intro B nB
    have nBd := hD.nd nB
    have nBs := hD.ns nB
    have nBp : B ≠ pd := (ne_of_none hpd nB).symm
    refine ⟨_, rfl, pd, pk ps, rfl, .inl (by rw [upd_ne nBp.symm]; exact hpd), fun L nL => ?_⟩
    have nLB : L ≠ B := fun e => by rw [e, upd_same] at nL; cases nL
    have nL0 : H L = none := by rw [upd_ne nLB] at nL; exact nL
    have nLd := hD.nd nL0
    have nLs := hD.ns nL0
    refine ⟨(by show 2 ≤ sizeLine; decide), fun T nT => ?_⟩
    have nTL : T ≠ L := fun e => by rw [e, upd_same] at nT; cases nT
    have nTB : T ≠ B := fun e => by rw [e, upd_ne nLB.symm, upd_same] at nT; cases nT
    have nT0 : H T = none := by rw [upd_ne nTL, upd_ne nTB] at nT; exact nT
    refine ⟨T, _, rfl, SqT.of upd_same, rfl, _, _, rfl, _, _, rfl, rfl, ?_⟩
    have eks : (pk ps).map (fun kv => kV kv.1) = (ps.map (·.1)).map V.str := by
      unfold pk
      rw [List.map_map, List.map_map]
      rfl
    rw [eks]
    have D0 : DrawAt (upd (upd (upd H B (.dK [])) L (.lst ((ps.map (·.1)).map V.str))) T (.tup [V.ref B, V.ref L])) d sc := ((hD.upd nBd nBs).upd nLd nLs).upd (hD.nd nT0) (hD.ns nT0)
    have eB0 : (upd (upd (upd H B (.dK [])) L (.lst ((ps.map (·.1)).map V.str))) T (.tup [V.ref B, V.ref L])) B = some (.dK []) := by rw [upd_ne nTB.symm, upd_ne nLB.symm, upd_same]
    have eL0 : (upd (upd (upd H B (.dK [])) L (.lst ((ps.map (·.1)).map V.str))) T (.tup [V.ref B, V.ref L])) L = some (.lst ((ps.map (·.1)).map V.str)) := by rw [upd_ne nTL.symm, upd_same]
    have k0 : ∀ b o, H b = some o → (upd (upd (upd H B (.dK [])) L (.lst ((ps.map (·.1)).map V.str))) T (.tup [V.ref B, V.ref L])) b = some o := fun b o e => by
      rw [upd_ne (ne_of_none e nT0), upd_ne (ne_of_none e nL0), upd_ne (ne_of_none e nB)]; exact e
    generalize (upd (upd (upd H B (.dK [])) L (.lst ((ps.map (·.1)).map V.str))) T (.tup [V.ref B, V.ref L])) = H0 at D0 eB0 eL0 k0
    refine ⟨_, rfl, _, rfl, d, sc, m, rfl, D0, by omega, m8, fun N ws H1 W hl nN eN D1 k1 => ?_⟩
    have nNd := D0.nd nN
    have nNB : N ≠ B := (ne_of_none eB0 nN).symm
    have eB1 := k1 _ _ nBd eB0
    have eL1 := k1 _ _ nLd eL0
    refine ⟨N, rfl, ⟨_, SqL.of eN⟩, for_list (K := K) (a := N) (xs := ws.map V.str) (fun i σ H3 => ∃ (v6 v7 : Option V) (bs : List (Str × Addr)), σ = [some (.ref d), some (.ref pd), some (.int m), some (.int t), some (.ref B), some (.ref L), v6, v7, none] ∧
      BlkOk H3 ps bs ∧ bs.length = i ∧ (∀ p ∈ bs, p.1 ∈ ws.take i) ∧ H3 B = some (.dK (bk bs)) ∧ DrawAt H3 d sc ∧ ∀ b o, b ≠ B → b ≠ d → H1 b = some o → H3 b = some o)
      ⟨none, none, [], rfl, ⟨List.nodup_nil, by simp, by simp⟩, rfl, by simp, eB1, D1, fun b o _ _ e => e⟩ (fun i σ H3 _ ⟨_, _, _, _, _, _, _, _, _, k3⟩ => SqL.of (k3 N _ nNB nNd eN)) ?_ ?_⟩
    · rintro i x σ H3 hx ⟨v6, v7, bs, rfl, BO, hb, sub, eB, D3, k3⟩
      rw [List.getElem?_map] at hx
      cases hj : ws[i]? with
      | none => rw [hj] at hx; cases hx
      | some y =>
        rw [hj] at hx
        have ex : x = V.str y := (Option.some.inj hx).symm
        subst ex
        have hi : i < ws.length := (List.getElem?_eq_some_iff.mp hj).1
        have ny := nd_take W.nd hj
        have nyb : y ∉ bs.map (·.1) := fun h => by
          obtain ⟨p, hp, e⟩ := List.mem_map.mp h
          exact ny (e ▸ sub p hp)
        have hy : IsW y := W.ok y (List.mem_of_getElem? hj)
        refine ⟨_, rfl, _, rfl, d, sc, t, rfl, D3, by omega, fun r H4 r1 r2 D4 k4 => ?_⟩
        refine ⟨_, _, rfl, rfl, ?_⟩
        have eB4 := k4 B _ nBd eB
        have eL4 := k4 L _ nLd (k3 L _ nLB nLd eL1)
        refine ⟨_, rfl, 1 + r, rfl, by omega, by omega, fun S nS => ?_⟩
        have nSd := D4.nd nS
        have nSs := D4.ns nS
        have nSB : S ≠ B := (ne_of_none eB4 nS).symm
        have nSL : S ≠ L := (ne_of_none eL4 nS).symm
        refine lc_range (lo := 0) (n := (1 + r).toNat) (fun j H5 => ∃ es : List Str, H5 S = some (.lst (es.map V.str)) ∧ es.length = j ∧ (∀ e ∈ es, e ∈ ps.map (·.1)) ∧ DrawAt H5 d sc ∧ ∀ b o, b ≠ S → b ≠ d → H4 b = some o → H5 b = some o)
          ⟨[], upd_same, rfl, by simp, D4.upd nSd nSs, fun b o n1 _ e => by rw [upd_ne n1]; exact e⟩ ?_ ?_
        · rintro j H5 hj2 ⟨es, e1, e2, e3, D5, k5⟩
          refine ⟨rfl, ?_⟩
          refine ⟨_, rfl, _, rfl, d, sc, L, _, rfl, D5, SqL.of (k5 L _ nSL.symm nLd eL4), nLd, by rw [List.length_map, List.length_map]; exact List.length_pos_iff.mpr hne, fun l v H6 hv D6 k6 => ?_⟩
          obtain ⟨u, hu2, rfl⟩ : ∃ u, u ∈ ps.map (·.1) ∧ v = V.str u := by
            rw [List.getElem?_map] at hv
            cases hl2 : (ps.map (·.1))[l]? with
            | none => rw [hl2] at hv; cases hv
            | some u =>
              rw [hl2] at hv
              exact ⟨u, List.mem_of_getElem? hl2, (Option.some.inj hv).symm⟩
          refine ⟨_, k6 S _ nSd e1, by rw [List.length_map]; exact small1000 (by omega), es ++ [u], ?_, by simp [e2], ?_, D6.upd nSd nSs, ?_⟩
          · rw [upd_same, List.map_append]; rfl
          · intro e he
            rcases List.mem_append.mp he with he | he
            · exact e3 e he
            · have : e = u := by simpa using he
              rw [this]; exact hu2
          · intro b o n1 n2 e
            rw [upd_ne n1]
            exact k6 b o n2 (k5 b o n1 n2 e)
        · rintro H5 ⟨es, e1, e2, e3, D5, k5⟩
          refine ⟨S, _, rfl, .inl ⟨SqL.of e1, fun U nU => ?_⟩⟩
          have nUd := D5.nd nU
          have nUs := D5.ns nU
          have eB5 := k5 B _ nSB.symm nBd eB4
          have nUB : U ≠ B := (ne_of_none eB5 nU).symm
          refine ⟨_, rfl, _, rfl, B, _, rfl, DPut.k (k := Sum.inr y) (by rw [upd_ne nUB.symm]; exact eB5) (by unfold bk; rw [List.length_map]; exact small1000 (by omega)), ?_⟩
          have eP : putK (bk bs) (Sum.inr y) (V.ref U) = bk (bs ++ [(y, U)]) := put_map V.ref U nyb
          rw [eP]
          have kf : ∀ b o, b ≠ B → b ≠ d → H3 b = some o → (upd (upd H5 U (.tup (es.map V.str))) B (.dK (bk (bs ++ [(y, U)])))) b = some o := fun b o n1 n2 e => by
            have e4 := k4 b o n2 e
            have e5 := k5 b o (ne_of_none e4 nS) n2 e4
            rw [upd_ne n1, upd_ne (ne_of_none e5 nU)]
            exact e5
          have tf : TupK H3 (upd (upd H5 U (.tup (es.map V.str))) B (.dK (bk (bs ++ [(y, U)])))) := fun b xs e => kf b _ (fun z => by rw [z, eB] at e; cases e) (fun z => by
            obtain ⟨_, _, h1, _⟩ := D3.ex
            rw [z, h1] at e; cases e) e
          refine ⟨_, _, bs ++ [(y, U)], rfl, ⟨?_, ?_, ?_⟩, by simp [hb], ?_, upd_same, (D5.upd nUd nUs).upd nBd nBs, fun b o n1 n2 e => kf b o n1 n2 (k3 b o n1 n2 e)⟩
          · rw [List.map_append]
            exact List.nodup_append.mpr ⟨BO.nd, by simp, fun a ha b hb => by
              have : b = y := by simpa using hb
              rw [this]; exact fun e => nyb (e ▸ ha)⟩
          · intro p hp
            rcases List.mem_append.mp hp with hp | hp
            · exact BO.wd p hp
            · have : p = (y, U) := by simpa using hp
              rw [this]; exact hy
          · intro p hp
            rcases List.mem_append.mp hp with hp | hp
            · obtain ⟨es', e', e''⟩ := BO.tup p hp
              exact ⟨es', tf _ _ e', e''⟩
            · have : p = (y, U) := by simpa using hp
              rw [this]
              exact ⟨es, by rw [upd_ne nUB, upd_same], by omega, by omega, e3⟩
          · intro p hp
            rw [List.take_add_one, hj]
            rcases List.mem_append.mp hp with hp | hp
            · exact List.mem_append_left _ (sub p hp)
            · have : p = (y, U) := by simpa using hp
              rw [this]; exact List.mem_append_right _ (by simp)
    · rintro σ H3 ⟨v6, v7, bs, rfl, BO, hb, sub, eB, D3, k3⟩
      rw [List.length_map] at hb
      refine ⟨_, rfl, ?_⟩
      refine q B bs H3 BO (fun e => by rw [e] at hb; simp at hb; omega) (by omega) nB eB D3 fun b o n e => k3 b o (ne_of_none e nB) n (k1 b o n (k0 b o e))
end
end K1

set_option Elab.async false
set_option linter.all false
set_option maxRecDepth 100000
set_option maxHeartbeats 1000000
namespace K1
open PySem PySem.Spec PyProof.Rows L2
/-- < of two texts, for min -/
theorem cmp_strs {prog : Program} {w : World} {A : Around} {P : Nat → Value → Prop} (val : Nat → Str) (hval : ∀ i v, P i v → ∃ t, v = .str (val i) t) :
    CmpOf prog w A .Lt P (fun i j => decide ((val i).cps.toList < (val j).cps.toList)) := fun i j vi vj s Q E hi hj h => by
  obtain ⟨t, rfl⟩ := hval i vi hi
  obtain ⟨u, rfl⟩ := hval j vj hj
  exact (show wpAny _ _ (compareOp .Lt (.str (val i) t) (.str (val j) u)) Q E s from PyProof.Rows.lt_str h)
def minS (a b : Str) : Str := if b.cps.toList < a.cps.toList then b else a
theorem best2 (f : Nat → Nat → Bool) : argBest f 1 = if f 1 0 then 1 else 0 := rfl
theorem pair_val {a b : Str} {t u : Tok} (i : Nat) (v : Value) (h : (#[Value.str a t, Value.str b u] : Array Value)[i]? = some v) : ∃ t', v = .str (if i = 0 then a else b) t' := by
  match i, h with
  | 0, h => exact ⟨t, (Option.some.inj h).symm⟩
  | 1, h => exact ⟨u, (Option.some.inj h).symm⟩
  | n + 2, h => cases h
theorem pair_best {a b : Str} {t u : Tok} {v : Value} (h : (#[Value.str a t, Value.str b u] : Array Value)[argBest (fun i j => decide ((if i = 0 then a else b).cps.toList < (if j = 0 then a else b).cps.toList)) 1]? = some v) : ∃ t', v = .str (minS a b) t' := by
  rw [best2] at h
  unfold minS
  by_cases e : b.cps.toList < a.cps.toList
  · rw [if_pos e]
    simp only [Nat.one_ne_zero, if_false, if_true, decide_eq_true e] at h
    exact ⟨u, (Option.some.inj h).symm⟩
  · rw [if_neg e]
    simp only [Nat.one_ne_zero, if_false, if_true, decide_eq_false e] at h
    exact ⟨t, (Option.some.inj h).symm⟩
section
variable {X : Cx}
theorem cr_minL2 (hc : X.calm = true) : CallR X (.builtin "min") (fun vs H Q => ∃ (p : Addr) (a b : Str), vs = [V.ref p] ∧ SqL X.K H p [V.str a, V.str b] ∧ Q (.str (minS a b)) H) := by
  intro pins s σ H vs us Q I r h
  obtain ⟨p, a, b, rfl, hs, q⟩ := h
  obtain ⟨its, rv, hl, _⟩ := I.list hs
  rw [Vals.ref1 r]
  obtain ⟨u1, u2, rfl, ⟨t, rfl⟩, ⟨t', rfl⟩⟩ : ∃ u1 u2, its = [u1, u2] ∧ RelV (.str a) u1 ∧ RelV (.str b) u2 := by
    cases rv with
    | cons p q =>
      cases q with
      | cons p' q' =>
        cases q'
        exact ⟨_, _, rfl, p, p'⟩
  refine call_min_walk (iter_any hl.isList fun s₂ e2 st hne => ?_)
  subst e2
  refine ⟨_, _, _, _, _, _, _, rfl, Walks.list (A := X.A.in1) (I.ok.hd hc) _ p hne #[Value.str a t, Value.str b t'], st, fun c hc => ?_, Nat.zero_lt_succ _, cmp_strs (fun i => if i = 0 then a else b) pair_val, fun v h' tk hP hk => ?_⟩
  · show c < (s.heap.push _).objs.size
    rw [Heap.size_push]
    rcases List.mem_cons.mp hc with rfl | hc
    · exact Nat.lt_succ_self _
    · rcases List.mem_cons.mp hc with rfl | hc
      · obtain ⟨_, e, _⟩ := hl.isList
        exact Nat.lt_succ_of_lt (Heap.lt_size e)
      · cases hc
  · obtain ⟨tt, rfl⟩ := pair_best hP
    exact ⟨.str _, H, I.kept (old_kept hk), ⟨_, rfl⟩, q⟩
theorem cr_min2s (hc : X.calm = true) : CallR X (.builtin "min") (fun vs H Q => ∃ (a b : Str), vs = [V.str a, V.str b] ∧ Q (.str (minS a b)) H) := by
  intro pins s σ H vs us Q I r h
  obtain ⟨a, b, rfl, q⟩ := h
  obtain ⟨u, w', rfl, ⟨t, rfl⟩, ⟨t', rfl⟩⟩ := vals2 r
  have hT : (s.heap.push { cls := .type "tuple", data := .seq #[.str a t, .str b t'] }).IsTuple s.heap.objs.size #[.str a t, .str b t'] := ⟨_, Heap.get?_push_size _ rfl, rfl, 0, rfl⟩
  refine call_min_two (wpAny_pyIter_tuple hT ?_)
  have hsz : (s.heap.push { cls := .type "tuple", data := .seq #[.str a t, .str b t'] }).objs.size = s.heap.objs.size + 1 := Heap.size_push ..
  refine ⟨_, [_, s.heap.objs.size], [_], _, _, _, _, rfl, Walks.tuple (A := X.A.in1) (I.ok.hd hc) _ s.heap.objs.size (by rw [hsz]; exact Nat.ne_of_lt (Nat.lt_succ_self _)) #[.str a t, .str b t'],
    ⟨⟨_, Heap.get?_push_size _ rfl, rfl, rfl⟩, hT.push _⟩, fun c hc => ?_, Nat.zero_lt_succ _, cmp_strs (fun i => if i = 0 then a else b) pair_val, fun v h' tk hP hk => ?_⟩
  · show c < ((s.heap.push _).push _).objs.size
    rw [Heap.size_push, hsz]
    rcases List.mem_cons.mp hc with rfl | hc
    · rw [hsz]; exact Nat.lt_succ_self _
    · rcases List.mem_cons.mp hc with rfl | hc
      · exact Nat.lt_succ_of_lt (Nat.lt_succ_self _)
      · cases hc
  · obtain ⟨tt, rfl⟩ := pair_best hP
    refine ⟨.str _, H, I.kept (fun c o e => ?_), ⟨_, rfl⟩, q⟩
    refine hk c o (fun hm => ?_) (Heap.get?_push_of_some _ (Heap.get?_push_of_some _ e))
    rcases List.mem_cons.mp hm with e1 | hm
    · have := Heap.lt_size e; rw [e1, hsz] at this; exact Nat.lt_irrefl _ (Nat.lt_of_succ_lt this)
    · cases hm
end
end K1

set_option Elab.async false
set_option linter.all false
set_option maxRecDepth 100000
set_option maxHeartbeats 1000000
namespace K1
open PySem PySem.Spec PyProof.Rows L2
section
variable {prog : Program} {w : World} {A : Around} {E : Value → Shared → Prop} {s : Shared} {K : PySem.W.Frag} {x C f : Addr} {ox : Obj} {od : Option Obj}
/-- a special of object's own, looked up on an instance -/
theorem ifBound_B {M : Model} {name : Str} {id : String} {args : List Value} {Q : Option Value → Shared → Prop} (X : K.In s.heap) (I : PySem.W.InstAt s.heap x ox C od) (hs : PySem.W.findIn K (.ref C) name = some (some (.builtin id))) (S : Slot "object" name id)
    (h : wpAny M A (call (.builtin id) (.ref x :: args)) (fun v => Q (some v)) E s) : wpAny M A (callSpecialIfBound? (.ref x) name args) Q E s := by
  simp only [callSpecialIfBound?, bindSpecialIfBound?]
  refine wpAny_holding (wpAny_bind (wpAny_bind (wpAny_bind (I.type.here ((PySem.W.looks_findIn X hs).here ?_)))))
  simp only [S.bind]
  refine wpAny_bind (wpAny_askSetting (wpAny_ite ?_))
  have fin : wpAny M A (call (.builtin id) ([.ref x] ++ args) >>= fun v => pure (some v)) Q E s := wpAny_bind (wpAny_mono h (fun v s' h' => wpAny_pure h') fun _ _ h' => h')
  split
  · exact wpAny_bind (wpAny_pure (wpAny_pure fin))
  · exact wpAny_tryCatch (wpAny_bind (wpAny_pure (wpAny_pure fin)))
/-- what object's != does with an own == -/
theorem objNe_K {y : Addr} {Q : Fin → Shared → Prop} (X : K.In s.heap) (I : PySem.W.InstAt s.heap x ox C od) (hs : PySem.W.findIn K (.ref C) "__eq__" = some (some (.ref f))) (hf : PySem.W.isFn K (.ref f) = true) (hu : A.units < cLine)
    (hcall : wpAny (model prog w) A (call (.ref f) [.ref x, .ref y]) (fun v s' => ∃ b, v = .bool b ∧ Q (.done (.ret (.bool (!b)))) s') E s) :
    wpAny (model prog w) A (Builtin.«object.__ne__» ⟨[.ref x, .ref y], []⟩) Q E s := by
  unfold Builtin.«object.__ne__»
  repeat (first
    | with_reducible refine wpAny_cRoomFor hu ?_
    | (refine wpAny_bind (m := callSpecialIfBound? (.ref x) (Str.ofString "__eq__") [.ref y])
        (PySem.W.ifBound_K X I hs hf (wpAny_mono hcall (fun r s' hr => by
          obtain ⟨b, rfl, hq⟩ := hr
          repeat (first | exact hq | exact wpAny_pure hq | exact wpAny_truthy_bool hq | (refine wpAny_bind (m := truthy (.bool _)) (wpAny_truthy_bool ?_)) | wp_step)) fun _ _ e => e)))
    | wp_step)
theorem ne_ownK {y : Addr} {Q : Value → Shared → Prop} (X : K.In s.heap) (I : PySem.W.InstAt s.heap x ox C od) (J : PySem.W.Looks (model prog w) s.heap (typeOf (.ref y)) (.ref C)) (hp : PySem.W.plainOver K C = true)
    (hn : PySem.W.findIn K (.ref C) "__ne__" = some (some (.builtin "object.__ne__"))) (hs : PySem.W.findIn K (.ref C) "__eq__" = some (some (.ref f))) (hf : PySem.W.isFn K (.ref f) = true) (hu : A.units + 1 < cLine)
    (hcall : wpAny (model prog w) A.in1 (call (.ref f) [.ref x, .ref y]) (fun v s' => ∃ b, v = .bool b ∧ Q (.bool (!b)) s') E s) :
    wpAny (model prog w) A (compareOp .NotEq (.ref x) (.ref y)) Q E s := by
  obtain ⟨cd, hc, ho⟩ := PySem.W.any_some hp
  have ne : cd.mro.isEmpty = false := by cases q : cd.mro with | nil => rw [q] at ho; cases ho | cons _ _ => rfl
  have sub : PySem.W.Looks (model prog w) s.heap (isInstance (.ref x) (.type "object")) true := I.type.andThen (PySem.W.looks_mroIn X (by unfold PySem.W.mroIn; rw [hc, Option.bind_some, if_neg (by rw [ne]; decide), PySem.W.only_has ho]))
  show wpAny _ _ (richCompare .NotEq (.ref x) (.ref y)) _ _ _
  have one : wpAny (model prog w) A (tryCompare (.ref x) "__ne__" (.ref y)) (fun r s' => ∃ v, r = some v ∧ Q v s') E s := by
    unfold tryCompare
    refine wpAny_bind (ifBound_B X I hn PySem.F.cmp_object.ne (wpAny_call (codeAny_call_builtin PySem.F.cmp_object.ne.plain F.cmpEntry_ne (PySem.W.check_slot (M := model prog w) F.cmpKind_ne F.cmpSplit_ne sub (F.cmpArgs_ne _ _) ?_))))
    refine objNe_K X I hs hf (by show A.in1.units < cLine; exact hu) (wpAny_mono hcall (fun v s' hv => ?_) fun _ _ e => e)
    obtain ⟨b, rfl, hq⟩ := hv
    exact ⟨b, rfl, wpAny_pure ⟨_, rfl, hq⟩⟩
  unfold richCompare
  simp only [oneThing_ref]
  refine wpAny_holding (wpAny_bind (wpAny_cRoomFor (Nat.lt_of_succ_lt hu) ?_))
  rw [cmpInfo_NotEq]
  dsimp only
  refine wpAny_bind (I.type.here (wpAny_bind (J.here ?_)))
  rw [show (Value.ref C != Value.ref C) = false from by simp]
  simp only [Bool.false_eq_true, if_false]
  refine wpAny_bind (wpAny_pure ?_)
  simp only [Bool.false_eq_true, if_false]
  refine wpAny_bind (wpAny_mono one (fun r s' hr => ?_) fun _ _ e => e)
  obtain ⟨v, rfl, hq⟩ := hr
  first | exact wpAny_pure hq | exact wpAny_pure (wpAny_pure hq)
end
section
variable {X : Cx} {CX : CXT} {n : Nat} {C f : Addr} {fd : FuncData} {ps : List Str} {sp : Sp} {E0 : XK}
/-- an own == that is called where an expression compares -/
theorem run_own {A : Around} {pins : List (Addr × Obj)} {σ : L2.St} {H : Hp} {s : Shared} {a b : Addr} {Q : VK} (F : FnOk X.prog X.w X.K X.mg X.base CX n f fd ps sp) (hb : Binds X.K fd ps []) (hx : Passes CX X E0) (sb : Sub X n A) (I : Inv X pins σ H s)
    (hsp : sp [.ref a, .ref b] H Q E0) : wpAny (model X.prog X.w) A (call (.ref f) [.ref a, .ref b]) (EP X pins σ Q) X.xe s := by
  have e0 : Env0 X.prog X.w X.K X.mg X.base A X.stack s H := by
    have e := I.env0
    exact ⟨by rw [sb.fr]; exact e.frames, e.mod, e.bs, e.bsz, e.funs, e.frf, e.hok, e.bare⟩
  have hl := F.len _ _ _ _ hsp
  have r2 : Vals [V.ref a, V.ref b] [Value.ref a, Value.ref b] := .cons rfl (.cons rfl .nil)
  refine wpAny_call (codeAny_mono (F.run A X.stack s H ⟨[.ref a, .ref b], []⟩ [.ref a, .ref b] [.ref a, .ref b] _ E0 sb.room e0 (by
    have := hb s [.ref a, .ref b] I.kIn (by simpa using hl)
    simpa using this) r2 hsp) fun r s' hq => ?_)
  cases r with
  | error e => exact hx pins σ H s e s' I hq
  | ok fl =>
    cases fl with
    | ret w => exact I.after hq
    | next => exact False.elim hq
    | brk => exact False.elim hq
    | cont => exact False.elim hq
def rOwnC (C : Addr) (sp : Sp) (E0 : XK) (g : Bool → Bool) : R2 := fun x y H Q => ∃ a b dx dy fs gs, x = .ref a ∧ y = .ref b ∧ H a = some (.ins C dx fs) ∧ H b = some (.ins C dy gs) ∧ sp [.ref a, .ref b] H (fun v H' => ∃ r, v = .bl r ∧ Q (.bl (g r)) H') E0
theorem op_eqOwn (F : FnOk X.prog X.w X.K X.mg X.base CX n f fd ps sp) (hs : PySem.W.findIn X.K (.ref C) "__eq__" = some (some (.ref f))) (hf : PySem.W.isFn X.K (.ref f) = true) (hb : Binds X.K fd ps []) (hx : Passes CX X E0) (hr : Room n X.A) :
    OpR X (compareOp .Eq) (rOwnC C sp E0 id) := by
  intro pins s σ H x y v u Q I rx ry h
  obtain ⟨a, b, dx, dy, fs, gs, rfl, rfl, ha, hb', hsp⟩ := h
  cases rx
  cases ry
  obtain ⟨mA, J, _⟩ := ins_get I.hok ha
  obtain ⟨mB, J', _⟩ := ins_get I.hok hb'
  obtain ⟨od, J, _⟩ := J.look
  obtain ⟨od', J', _⟩ := J'.look
  obtain ⟨m, hF⟩ := I.fr
  show wpAny _ _ (richCompare .Eq (.ref a) (.ref b)) _ _ _
  refine PySem.W.cmp_K (op := .Eq) (tb := .ref C) hr.units0 hF I.ok.mod.kin J J'.type (by simp [PySem.W.notFirst]) hs hf ?_
  refine wpAny_mono (run_own F hb hx ⟨hr, rfl⟩ I hsp) (fun v s' q => ?_) fun _ _ x => x
  obtain ⟨z, H', I', rz, r, ez, q⟩ := q
  subst ez
  cases rz
  exact ⟨.bl r, H', I', rfl, q⟩
theorem op_neOwn (F : FnOk X.prog X.w X.K X.mg X.base CX n f fd ps sp) (hp : PySem.W.plainOver X.K C = true) (hn : PySem.W.findIn X.K (.ref C) "__ne__" = some (some (.builtin "object.__ne__")))
    (hs : PySem.W.findIn X.K (.ref C) "__eq__" = some (some (.ref f))) (hf : PySem.W.isFn X.K (.ref f) = true) (hb : Binds X.K fd ps []) (hx : Passes CX X E0) (hr : Room (n + 1) X.A) :
    OpR X (compareOp .NotEq) (rOwnC C sp E0 not) := by
  intro pins s σ H x y v u Q I rx ry h
  obtain ⟨a, b, dx, dy, fs, gs, rfl, rfl, ha, hb', hsp⟩ := h
  cases rx
  cases ry
  obtain ⟨mA, J, _⟩ := ins_get I.hok ha
  obtain ⟨mB, J', _⟩ := ins_get I.hok hb'
  obtain ⟨od, J, _⟩ := J.look
  obtain ⟨od', J', _⟩ := J'.look
  have sb : Sub X (n + 1) X.A := ⟨hr, rfl⟩
  refine ne_ownK I.kIn J J'.type hp hn hs hf (by have := hr.un; omega) ?_
  refine wpAny_mono (run_own F hb hx sb.in1 I hsp) (fun v s' q => ?_) fun _ _ x => x
  obtain ⟨z, H', I', rz, r, ez, q⟩ := q
  subst ez
  cases rz
  exact ⟨r, rfl, .bl (!r), H', I', rfl, q⟩
/-! ### two dicts compared, the values alike or the same object -/
def flatR : V → Bool
  | .ref _ => true
  | v => flatB v
theorem eqAt_sameR {A : Around} {s : Shared} {v : V} {u u' : Value} (r : RelV v u) (r' : RelV v u') (f : flatR v = true) : SeqAt.EqAt A s u u' true := by
  cases v with
  | ref a => cases (show u = Value.ref a from r); cases (show u' = Value.ref a from r'); exact SeqAt.EqAt.same _
  | non => exact eqAt_same r r' rfl
  | bl b => exact eqAt_same r r' rfl
  | int i => exact eqAt_same r r' rfl
  | str x => exact eqAt_same r r' rfl
  | byt b => exact eqAt_same r r' rfl
  | flt x => exact absurd (show false = true from f) Bool.false_ne_true
  | ty n => exact absurd (show false = true from f) Bool.false_ne_true
theorem hits_allR {A : Around} {s : Shared} {kvs : List (Key × V)} {vb : List (Key × Value)} (rb : KV kvs vb) {ks : List (Key × V)} {va : List (Key × Value)} (ra : KV ks va) :
    (∀ p ∈ ks, valV kvs p.1 = some p.2 ∧ flatR p.2 = true) → PySem.W.KeqHits A s vb va true := by
  unfold KV at ra
  induction ra with
  | nil => intro _; exact .nil
  | @cons p q ps qs h t ih =>
    intro hp
    obtain ⟨h1, h2⟩ := h
    obtain ⟨e, f⟩ := hp p List.mem_cons_self
    have rr : RelO (some p.2) (valueAt vb p.1) := by rw [← e]; exact rb.val p.1
    obtain ⟨y, hy, ry⟩ := rr.some_of
    obtain ⟨k, v⟩ := q
    have h1' : p.1 = k := h1
    rw [h1'] at hy
    show PySem.W.KeqHits A s vb ((k, v) :: qs) (true && true)
    exact .hit hy (eqAt_sameR h2 ry f) (ih fun p' hm => hp p' (List.mem_cons_of_mem _ hm))
def rEqDR : R2 := fun x y H Q => ∃ a b ks ls, x = .ref a ∧ y = .ref b ∧ H a = some (.dK ks) ∧ H b = some (.dK ls) ∧
  ((ks.length = ls.length ∧ (∀ p ∈ ks, valV ls p.1 = some p.2 ∧ flatR p.2 = true) ∧ Q (.bl true) H) ∨ (ks.length ≠ ls.length ∧ Q (.bl false) H))
theorem op_eqDR (hu : X.A.units < cLine) : OpR X (compareOp .Eq) rEqDR := by
  intro pins s σ H x y v u Q I rx ry h
  obtain ⟨a, b, ks, ls, rfl, rfl, ea, eb, h⟩ := h
  obtain rfl : v = Value.ref a := rx
  obtain rfl : u = Value.ref b := ry
  obtain ⟨_, ya, va, ra, da⟩ := (show ObjOk X.prog X.w H s.heap a (.dK ks) from I.hok a _ ea)
  obtain ⟨_, yb, vb, rb, db⟩ := (show ObjOk X.prog X.w H s.heap b (.dK ls) from I.hok b _ eb)
  rcases h with ⟨hlen, hp, q⟩ | ⟨hlen, q⟩
  · have hl : va.length = vb.length := by rw [← ra.length, ← rb.length]; exact hlen
    exact PySem.W.keq_eq (knd := mixKind X.prog X.w) (r := true) ya yb da db hu (fun _ => hits_allR rb ra hp) (fin_bl I q (by simp [hl]))
  · have hl : ¬ va.length = vb.length := by rw [← ra.length, ← rb.length]; exact hlen
    exact PySem.W.keq_eq (knd := mixKind X.prog X.w) (r := true) ya yb da db hu (fun e => absurd e hl) (fin_bl I q (by simp [hl]))
end
end K1

set_option Elab.async false
set_option linter.all false
set_option maxRecDepth 100000
set_option maxHeartbeats 1000000
namespace K1
open PySem PySem.Spec PyProof.Rows L2
abbrev sLetter : Stmt := topS 10
abbrev sIsWord : Stmt := topS 11
abbrev sArePart : Stmt := topS 14
abbrev sAreEnds : Stmt := topS 15
abbrev sAreBlocks : Stmt := topS 16
theorem scLetter : FnScope ["sign"] ["sign"] (defScope sLetter) := ⟨rfl, rfl, rfl, by decide +kernel, rfl, by decide +kernel, by decide +kernel⟩
theorem scIsWord : FnScope ["thing", "sign"] ["thing"] (defScope sIsWord) := ⟨rfl, rfl, rfl, by decide +kernel, rfl, by decide +kernel, by decide +kernel⟩
theorem scArePart : FnScope ["partners", "kind", "other"] ["partners"] (defScope sArePart) := ⟨rfl, rfl, rfl, by decide +kernel, rfl, by decide +kernel, by decide +kernel⟩
theorem scAreEnds : FnScope ["partners", "ends", "kind"] ["partners", "ends"] (defScope sAreEnds) := ⟨rfl, rfl, rfl, by decide +kernel, rfl, by decide +kernel, by decide +kernel⟩
theorem scAreBlocks : FnScope ["partners", "blocks", "name"] ["partners", "blocks"] (defScope sAreBlocks) := ⟨rfl, rfl, rfl, by decide +kernel, rfl, by decide +kernel, by decide +kernel⟩
/-- what a value is, in a heap -/
inductive Kd where
  | str (z : Str) | int (i : Int) | bl (b : Bool) | non | tup (xs : List V) | lst (xs : List V) | dct (kvs : List (Key × V))
inductive Is (H : Hp) : V → Kd → Prop
  | str (z : Str) : Is H (.str z) (.str z)
  | int (i : Int) : Is H (.int i) (.int i)
  | bl (b : Bool) : Is H (.bl b) (.bl b)
  | non : Is H .non .non
  | tup {a : Addr} {xs : List V} (h : H a = some (.tup xs)) : Is H (.ref a) (.tup xs)
  | lst {a : Addr} {xs : List V} (h : H a = some (.lst xs)) : Is H (.ref a) (.lst xs)
  | dct {a : Addr} {kvs : List (Key × V)} (h : H a = some (.dK kvs)) : Is H (.ref a) (.dct kvs)
def tyK : Kd → String
  | .str _ => "str" | .int _ => "int" | .bl _ => "bool" | .non => "NoneType" | .tup _ => "tuple" | .lst _ => "list" | .dct _ => "dict"
theorem Is.ty {K : PySem.W.Frag} {H : Hp} {v : V} {k : Kd} (h : Is H v k) : TyX K H v (.type (tyK k)) := by
  cases h with
  | str z => exact .base (.str z)
  | int i => exact .base (.int i)
  | bl b => exact .base (.bl b)
  | non => exact .base .non
  | tup h => exact .base (.tup h)
  | lst h => exact .base (.lst h)
  | dct h => exact .base (.dK h)
theorem Is.same {H H' : Hp} {v : V} {k : Kd} (h : Is H v k) (e : Same H H') : Is H' v k := by
  cases h with
  | str z => exact .str z
  | int i => exact .int i
  | bl b => exact .bl b
  | non => exact .non
  | tup h => exact .tup (e _ _ h)
  | lst h => exact .lst (e _ _ h)
  | dct h => exact .dct (e _ _ h)
def isStrK : Kd → Bool | .str _ => true | _ => false
def isTupK : Kd → Bool | .tup _ => true | _ => false
def isDctK : Kd → Bool | .dct _ => true | _ => false
theorem kit_str {K : PySem.W.Frag} (k : Kd) : PySem.W.kitOne K (.type (tyK k)) (.type "str") = some (isStrK k) :=
  match k with
  | .str _ => kit_ty (a := "str") (b := "str") (r := true) (by decide +kernel)
  | .int _ => kit_ty (a := "int") (b := "str") (r := false) (by decide +kernel)
  | .bl _ => kit_ty (a := "bool") (b := "str") (r := false) (by decide +kernel)
  | .non => kit_ty (a := "NoneType") (b := "str") (r := false) (by decide +kernel)
  | .tup _ => kit_ty (a := "tuple") (b := "str") (r := false) (by decide +kernel)
  | .lst _ => kit_ty (a := "list") (b := "str") (r := false) (by decide +kernel)
  | .dct _ => kit_ty (a := "dict") (b := "str") (r := false) (by decide +kernel)
theorem kit_tup {K : PySem.W.Frag} (k : Kd) : PySem.W.kitOne K (.type (tyK k)) (.type "tuple") = some (isTupK k) :=
  match k with
  | .str _ => kit_ty (a := "str") (b := "tuple") (r := false) (by decide +kernel)
  | .int _ => kit_ty (a := "int") (b := "tuple") (r := false) (by decide +kernel)
  | .bl _ => kit_ty (a := "bool") (b := "tuple") (r := false) (by decide +kernel)
  | .non => kit_ty (a := "NoneType") (b := "tuple") (r := false) (by decide +kernel)
  | .tup _ => kit_ty (a := "tuple") (b := "tuple") (r := true) (by decide +kernel)
  | .lst _ => kit_ty (a := "list") (b := "tuple") (r := false) (by decide +kernel)
  | .dct _ => kit_ty (a := "dict") (b := "tuple") (r := false) (by decide +kernel)
theorem kit_dct {K : PySem.W.Frag} (k : Kd) : PySem.W.kitOne K (.type (tyK k)) (.type "dict") = some (isDctK k) :=
  match k with
  | .str _ => kit_ty (a := "str") (b := "dict") (r := false) (by decide +kernel)
  | .int _ => kit_ty (a := "int") (b := "dict") (r := false) (by decide +kernel)
  | .bl _ => kit_ty (a := "bool") (b := "dict") (r := false) (by decide +kernel)
  | .non => kit_ty (a := "NoneType") (b := "dict") (r := false) (by decide +kernel)
  | .tup _ => kit_ty (a := "tuple") (b := "dict") (r := false) (by decide +kernel)
  | .lst _ => kit_ty (a := "list") (b := "dict") (r := false) (by decide +kernel)
  | .dct _ => kit_ty (a := "dict") (b := "dict") (r := true) (by decide +kernel)
/-- the built-in names that the sheets' text asks for -/
structure Bi (mg : Str → Option Value) : Prop where
  isi : mg "isinstance" = none
  str : mg "str" = none
  len : mg "len" = none
  all : mg "all" = none
  dict : mg "dict" = none
  tuple : mg "tuple" = none
  list : mg "list" = none
  sorted : mg "sorted" = none
  min : mg "min" = none
  iter : mg "iter" = none
  lw : ∃ t, mg "LONGEST_WORD" = some (.int 8 t)
  me : ∃ t, mg "MOST_ENDS" = some (.int 4 t)
def letB (c : Nat) : Bool := decide (97 ≤ c) && decide (c ≤ 122)
/-- is a text a word -/
def wordB (z : Str) : Bool := decide (1 ≤ z.length) && decide (z.length ≤ 8) && z.cps.toList.all letB
theorem IsW.b {z : Str} (h : IsW z) : wordB z = true := by
  unfold wordB
  rw [decide_eq_true h.lo, decide_eq_true h.hi, Bool.true_and, Bool.true_and, List.all_eq_true]
  intro c hc
  unfold letB
  rw [decide_eq_true (h.ab c hc).1, decide_eq_true (h.ab c hc).2]
  rfl
def wordK : Kd → Bool | .str z => wordB z | _ => false
theorem one_lt (a b : Nat) : decide (([a] : List Nat) < [b]) = decide (a < b) := by
  have e : (([a] : List Nat) < [b]) ↔ a < b := by
    rw [List.cons_lt_cons_iff]
    simp
  by_cases h : a < b
  · rw [decide_eq_true h, decide_eq_true (e.mpr h)]
  · rw [decide_eq_false h, decide_eq_false fun q => h (e.mp q)]
theorem cps_a : (PySem.Str.ofString "a").cps.toList = [97] := by decide +kernel
theorem cps_z : (PySem.Str.ofString "z").cps.toList = [122] := by decide +kernel
section
variable {P : Program} {w : World} {K : PySem.W.Frag} {mg : Str → Option Value} {base : Heap}
def spLetter : Sp := fun vs H Q _ => ∃ (c : Nat), vs = [.str ⟨#[c]⟩] ∧ Q (.bl (letB c)) H
theorem ok_letter {f : Addr} {fd : FuncData} (F : Fun K "is_letter" "is_letter" sLetter f fd) : FnOk P w K mg base CX0 1 f fd ["sign"] spLetter := by
  refine F.ok scLetter (fun vs H Q E h => ?_) (fun cdv A outer s H vs Q E hr h => ?_)
  · obtain ⟨c, rfl, _⟩ := h
    rfl
  · obtain ⟨c, rfl, q⟩ := h
    refine ⟨_, pss_one (ps_ret (pe_chain op_le_str op_le_str pe_str (pv 0) pe_str)), ?_⟩
    refine ⟨_, rfl, _, _, rfl, rfl, _, rfl, ?_⟩
    rw [cps_a]
    show if (!decide (([c] : List Nat) < [97])) = true then _ else _
    rw [one_lt]
    have e : (!decide (c < 97)) = decide (97 ≤ c) := by
      by_cases h : c < 97
      · rw [decide_eq_true h, decide_eq_false (by omega)]; rfl
      · rw [decide_eq_false h, decide_eq_true (by omega)]; rfl
    rw [e]
    unfold letB at q
    by_cases h : 97 ≤ c
    · rw [decide_eq_true h] at q ⊢
      rw [if_pos rfl]
      refine ⟨_, _, rfl, rfl, ?_⟩
      rw [cps_z]
      show Q (.bl (!decide (([122] : List Nat) < [c]))) H
      rw [one_lt]
      have e2 : (!decide (122 < c)) = decide (c ≤ 122) := by
        by_cases h : c ≤ 122
        · rw [decide_eq_true h, decide_eq_false (by omega)]; rfl
        · rw [decide_eq_false h, decide_eq_true (by omega)]; rfl
      rw [e2]
      exact q
    · rw [decide_eq_false h] at q ⊢
      rw [if_neg Bool.false_ne_true]
      exact q
/-- a comprehension over a text -/
theorem lc_str {z : Str} {g : TG} {tt : TT} {te : TE} {vs : List Nat} {σ : L2.St} {H1 : Hp} {D : Addr} {Qd : Hp → Prop} (Pv : Nat → Hp → Prop) (h0 : Pv 0 (upd H1 D (.lst [])))
    (hs : ∀ i c H, z.cps[i]? = some c → Pv i H → g (.str ⟨#[c]⟩) (wipe σ vs) H fun σ2 H2 => wipe σ2 vs = wipe σ vs ∧ tt σ2 H2 fun b H3 =>
      if b = true then te σ2 H3 fun y H4 => ∃ acc, H4 D = some (.lst acc) ∧ acc.length < sizeLine ∧ Pv (i + 1) (upd H4 D (.lst (acc ++ [y]))) else Pv (i + 1) H3) (hd : ∀ H, Pv z.cps.size H → Qd H) :
    ∃ W : Nat → Nat → Hp → Prop, (∃ m, W 0 m (upd H1 D (.lst []))) ∧ ∀ i m H, W i m H →
      ((Its z).stop i H ∧ Qd H) ∨ ((Its z).go i H ∧ ∃ Nx : Hp → Prop, (∀ H', Nx H' → ∃ m', m' < m ∧ W (i + 1) m' H') ∧ ∀ x H', (Its z).yld i H x H' → g x (wipe σ vs) H' fun σ2 H2 => wipe σ2 vs = wipe σ vs ∧ tt σ2 H2 fun b H3 =>
        if b = true then te σ2 H3 fun y H4 => ∃ acc, H4 D = some (.lst acc) ∧ acc.length < sizeLine ∧ Nx (upd H4 D (.lst (acc ++ [y]))) else Nx H3) := by
  refine ⟨fun i m H => m = z.cps.size - i ∧ i ≤ z.cps.size ∧ Pv i H, ⟨z.cps.size, by simp, Nat.zero_le _, h0⟩, ?_⟩
  rintro i m H ⟨rfl, hi, p⟩
  by_cases hlt : i < z.cps.size
  · refine .inr ⟨hlt, Pv (i + 1), fun H' p' => ⟨z.cps.size - (i + 1), by omega, rfl, hlt, p'⟩, fun x H' y => ?_⟩
    obtain ⟨e, c, hc, ex⟩ := y
    subst e
    subst ex
    exact hs i c _ hc p
  · have e : i = z.cps.size := by omega
    subst e
    exact .inl ⟨Nat.le_refl _, hd H p⟩
def spIsWord : Sp := fun vs H Q _ => ∃ (x : V) (k : Kd), vs = [x] ∧ Is H x k ∧ (∀ z, k = .str z → z.length ≤ sizeLine) ∧ ∀ H', Same H H' → Q (.bl (wordK k)) H'
theorem ok_isWord {f fL : Addr} {fd fdL : FuncData} (F : Fun K "is_word" "is_word" sIsWord f fd) (dL : D K mg "is_letter" sLetter ["sign"] fL fdL) (B : Bi mg) : FnOk P w K mg base CX0 2 f fd ["thing"] spIsWord := by
  have GL : FnOk P w K mg base CX0 1 fL fdL ["sign"] spLetter := ok_letter dL.F
  obtain ⟨tk, hlw⟩ := B.lw
  refine F.ok scIsWord (fun vs H Q E h => ?_) (fun cdv A outer s H vs Q E hr h => ?_)
  · obtain ⟨x, k, rfl, _⟩ := h
    rfl
  · obtain ⟨x, k, rfl, hx, hz, q⟩ := h
    refine ⟨_, pss_cons (ps_if (PW.pt (pw_or (pt_not (pt_val (pe_callB call_isi (by rfl) B.isi boot_isinstance (pa_cons (pv 0) (pa_cons (pe_bltn (by rfl) B.str boot_str (v := .ty "str") rfl) pa_nil)))))
        (pw_or1 (pt_not (pt_chain op_le op_le pe_int (pe_callB call_len_str (by rfl) B.len PySem.boot_len (pa_cons (pv 0) pa_nil)) (pe_glob rfl hlw (v := .int 8) ⟨_, rfl⟩)))))) (pss_one (ps_ret pe_bl)) pss_nil)
      (pss_one (ps_ret (pe_callB (cr_all rfl) (by rfl) B.all boot_all (pa_cons
        (pe_lc (own := [("sign", 1)]) (g := gName 1) (tt := tYes) rfl scIsWord.nd (pi_str (pv 0)) (blkOk_by (own := [("sign", 1)]) (N := ["thing", "sign"]) (sc := defScope sIsWord) (by decide +kernel))
          (fun _ _ _ _ _ => pg_name (i := 1) scIsWord.nd rfl (Or.inl rfl)) (fun _ _ _ _ _ => pts_nil)
          (fun _ _ _ _ _ => pe_call GL hr (by rfl) dL.m dL.F.kp dL.b .nil pass0 (pa_cons (pv 1) pa_nil))) pa_nil)))), ?_⟩
    refine ⟨_, rfl, _, _, _, _, _, rfl, .ty "str", hx.ty, kit_str k, _, rfl, ?_⟩
    cases k with
    | str z =>
      cases hx
      have hz := hz z rfl
      show if (!true) = true then _ else _
      rw [if_neg (by decide)]
      refine ⟨_, rfl, z, rfl, hz, ?_⟩
      refine ⟨_, _, rfl, rfl, _, rfl, ?_⟩
      by_cases h1 : (1 : Int) ≤ (z.length : Int)
      · rw [decide_eq_true h1, if_pos rfl]
        refine ⟨_, _, rfl, rfl, _, rfl, ?_⟩
        by_cases h2 : (z.length : Int) ≤ 8
        · rw [decide_eq_true h2]
          show if (!true) = true then _ else _
          rw [if_neg (by decide)]
          have hw : wordB z = (z.cps.toList.map letB).all id := by
            unfold wordB
            rw [decide_eq_true (show 1 ≤ z.length by omega), decide_eq_true (show z.length ≤ 8 by omega), Bool.true_and, Bool.true_and, List.all_map]
            rfl
          have hs : z.cps.toList.length = z.length := by simp [Str.length]
          refine ⟨_, rfl, z, rfl, fun L nL => lc_str (fun i H2 => H2 = upd H L (.lst (((z.cps.toList.take i).map letB).map V.bl))) rfl ?_ ?_⟩
          · rintro i c H2 hc rfl
            have hc2 : z.cps.toList[i]? = some c := by rw [Array.getElem?_toList]; exact hc
            refine ⟨rfl, _, rfl, c, rfl, _, upd_same, ?_, ?_⟩
            · rw [List.length_map, List.length_map, List.length_take]
              exact small1000 (by omega)
            · rw [upd_upd, List.take_add_one, hc2, List.map_append, List.map_append]
              rfl
          · rintro H2 rfl
            refine ⟨L, _, rfl, SqL.of upd_same, ?_⟩
            have e : z.cps.toList.take z.cps.size = z.cps.toList := List.take_of_length_le (by simp)
            rw [e]
            rw [show wordK (.str z) = wordB z from rfl, hw] at q
            exact q _ (same_upd nL)
        · rw [decide_eq_false h2]
          show if (!false) = true then _ else _
          rw [if_pos (by decide)]
          have hw : wordB z = false := by
            unfold wordB
            rw [decide_eq_false (show ¬ z.length ≤ 8 by omega), Bool.and_false, Bool.false_and]
          rw [show wordK (.str z) = wordB z from rfl, hw] at q
          exact q _ (Same.refl _)
      · rw [decide_eq_false h1, if_neg Bool.false_ne_true]
        refine ⟨_, rfl, ?_⟩
        show if (!false) = true then _ else _
        rw [if_pos (by decide)]
        have hw : wordB z = false := by
          unfold wordB
          rw [decide_eq_false (show ¬ 1 ≤ z.length by omega), Bool.false_and, Bool.false_and]
        rw [show wordK (.str z) = wordB z from rfl, hw] at q
        exact q _ (Same.refl _)
    | int i => exact q H (Same.refl _)
    | bl i => exact q H (Same.refl _)
    | non => exact q H (Same.refl _)
    | tup i => exact q H (Same.refl _)
    | lst i => exact q H (Same.refl _)
    | dct i => exact q H (Same.refl _)
end
end K1

set_option Elab.async false
set_option linter.all false
set_option maxRecDepth 100000
set_option maxHeartbeats 1000000
namespace K1
open PySem PySem.Spec PyProof.Rows L2
/-- a loop over a dict's pairs -/
theorem for_items {d : Addr} {o : Obj} {kvs : List (Key × V)} {g : TG} {tb : TS} {D : L2.Ends} {σ : L2.St} {H : Hp} (Pv : Nat → L2.St → Hp → Prop) (h0 : Pv 0 σ H) (hl : ∀ i σ H, Pv i σ H → H d = some (.frz o (.dK kvs)))
    (hs : ∀ i k v T σ H, kvs[i]? = some (k, v) → H T = none → Pv i σ H → g (.ref T) σ (upd H T (.tup [kV k, v])) fun σ2 H2 => tb { D with nx := Pv (i + 1), ct := Pv (i + 1), bk := D.nx } σ2 H2) (hd : ∀ σ H, Pv kvs.length σ H → D.nx σ H) :
    ∃ W : Nat → Nat → L2.St → Hp → Prop, (∃ m, W 0 m σ H) ∧ ∀ i m σ H, W i m σ H →
      ((Iti d o kvs).stop i H ∧ D.nx σ H) ∨ ((Iti d o kvs).go i H ∧ ∃ N : L2.St → Hp → Prop, (∀ σ' H', N σ' H' → ∃ m', m' < m ∧ W (i + 1) m' σ' H') ∧ ∀ x H', (Iti d o kvs).yld i H x H' → g x σ H' fun σ2 H2 => tb { D with nx := N, ct := N, bk := D.nx } σ2 H2) := by
  refine ⟨fun i m σ H => m = kvs.length - i ∧ i ≤ kvs.length ∧ Pv i σ H, ⟨kvs.length, by simp, Nat.zero_le _, h0⟩, ?_⟩
  rintro i m σ H ⟨rfl, hi, p⟩
  have q := hl i σ H p
  by_cases hlt : i < kvs.length
  · refine .inr ⟨⟨q, hlt⟩, Pv (i + 1), fun σ' H' p' => ⟨kvs.length - (i + 1), by omega, rfl, hlt, p'⟩, fun x H' y => ?_⟩
    obtain ⟨T, k, v, e, ex, eT, eH⟩ := y
    subst ex
    subst eH
    exact hs i k v T σ _ e eT p
  · have e : i = kvs.length := by omega
    subst e
    exact .inl ⟨⟨q, Nat.le_refl _⟩, hd σ H p⟩
/-- a comprehension over a dict's keys -/
theorem lc_keys {d : Addr} {o : Obj} {kvs : List (Key × V)} {g : TG} {tt : TT} {te : TE} {vs : List Nat} {σ : L2.St} {H1 : Hp} {D : Addr} {Qd : Hp → Prop} (Pv : Nat → Hp → Prop) (h0 : Pv 0 (upd H1 D (.lst []))) (hl : ∀ i H, Pv i H → H d = some (.frz o (.dK kvs)))
    (hs : ∀ i k v H, kvs[i]? = some (k, v) → Pv i H → g (kV k) (wipe σ vs) H fun σ2 H2 => wipe σ2 vs = wipe σ vs ∧ tt σ2 H2 fun b H3 =>
      if b = true then te σ2 H3 fun y H4 => ∃ acc, H4 D = some (.lst acc) ∧ acc.length < sizeLine ∧ Pv (i + 1) (upd H4 D (.lst (acc ++ [y]))) else Pv (i + 1) H3) (hd : ∀ H, Pv kvs.length H → Qd H) :
    ∃ W : Nat → Nat → Hp → Prop, (∃ m, W 0 m (upd H1 D (.lst []))) ∧ ∀ i m H, W i m H →
      ((Itk d o kvs).stop i H ∧ Qd H) ∨ ((Itk d o kvs).go i H ∧ ∃ Nx : Hp → Prop, (∀ H', Nx H' → ∃ m', m' < m ∧ W (i + 1) m' H') ∧ ∀ x H', (Itk d o kvs).yld i H x H' → g x (wipe σ vs) H' fun σ2 H2 => wipe σ2 vs = wipe σ vs ∧ tt σ2 H2 fun b H3 =>
        if b = true then te σ2 H3 fun y H4 => ∃ acc, H4 D = some (.lst acc) ∧ acc.length < sizeLine ∧ Nx (upd H4 D (.lst (acc ++ [y]))) else Nx H3) := by
  refine ⟨fun i m H => m = kvs.length - i ∧ i ≤ kvs.length ∧ Pv i H, ⟨kvs.length, by simp, Nat.zero_le _, h0⟩, ?_⟩
  rintro i m H ⟨rfl, hi, p⟩
  have q := hl i H p
  by_cases hlt : i < kvs.length
  · refine .inr ⟨⟨q, hlt⟩, Pv (i + 1), fun H' p' => ⟨kvs.length - (i + 1), by omega, rfl, hlt, p'⟩, fun x H' y => ?_⟩
    obtain ⟨e, k, v, hk, ex⟩ := y
    subst e
    subst ex
    exact hs i k v _ hk p
  · have e : i = kvs.length := by omega
    subst e
    exact .inl ⟨⟨q, Nat.le_refl _⟩, hd H p⟩
/-- a dict comprehension over a list -/
theorem dc_list {K : PySem.W.Frag} {a : Addr} {xs : List V} {g : TG} {tt : TT} {tk tv : TE} {vs : List Nat} {σ : L2.St} {H1 : Hp} {D : Addr} {Qd : Hp → Prop} (Pv : Nat → Hp → Prop) (h0 : Pv 0 (upd H1 D (.dK []))) (hl : ∀ i H, i ≤ xs.length → Pv i H → SqL K H a xs)
    (hs : ∀ i x H, xs[i]? = some x → Pv i H → g x (wipe σ vs) H fun σ2 H2 => wipe σ2 vs = wipe σ vs ∧ tt σ2 H2 fun b H3 =>
      if b = true then tk σ2 H3 fun y H4 => tv σ2 H4 fun z H5 => ∃ kvs k, y = kV k ∧ H5 D = some (.dK kvs) ∧ kvs.length < sizeLine ∧ Pv (i + 1) (upd H5 D (.dK (putK kvs k z))) else Pv (i + 1) H3) (hd : ∀ H, Pv xs.length H → Qd H) :
    ∃ W : Nat → Nat → Hp → Prop, (∃ m, W 0 m (upd H1 D (.dK []))) ∧ ∀ i m H, W i m H →
      ((Itl K a).stop i H ∧ Qd H) ∨ ((Itl K a).go i H ∧ ∃ Nx : Hp → Prop, (∀ H', Nx H' → ∃ m', m' < m ∧ W (i + 1) m' H') ∧ ∀ x H', (Itl K a).yld i H x H' → g x (wipe σ vs) H' fun σ2 H2 => wipe σ2 vs = wipe σ vs ∧ tt σ2 H2 fun b H3 =>
        if b = true then tk σ2 H3 fun y H4 => tv σ2 H4 fun z H5 => ∃ kvs k, y = kV k ∧ H5 D = some (.dK kvs) ∧ kvs.length < sizeLine ∧ Nx (upd H5 D (.dK (putK kvs k z))) else Nx H3) := by
  refine ⟨fun i m H => m = xs.length - i ∧ i ≤ xs.length ∧ Pv i H, ⟨xs.length, by simp, Nat.zero_le _, h0⟩, ?_⟩
  rintro i m H ⟨rfl, hi, p⟩
  have q := hl i H hi p
  by_cases hlt : i < xs.length
  · refine .inr ⟨⟨xs, xs[i], q, by simp [hlt]⟩, Pv (i + 1), fun H' p' => ⟨xs.length - (i + 1), by omega, rfl, hlt, p'⟩, fun x H' y => ?_⟩
    obtain ⟨e, y⟩ := y
    subst e
    exact hs i x _ (y xs q) p
  · have e : i = xs.length := by omega
    subst e
    exact .inl ⟨⟨xs, q, Nat.le_refl _⟩, hd H p⟩
/-- a dict with texts as keys -/
def sk (l : List (Str × V)) : List (Key × V) := l.map fun p => ((Sum.inr p.1 : Key), p.2)
theorem sk_val (l : List (Str × V)) (a : Str) : valV (sk l) (Sum.inr a) = look l a := by
  have e := valV_map (fun v : V => v) l a
  unfold sk
  rw [e]
  cases look l a <;> rfl
def sOk (v : V) : Prop := match v with
  | .str z => z.length ≤ sizeLine ∧ PySem.PyData.strOk z = true
  | .int _ => True
  | _ => False
/-- what may stand as a value of the dicts: no dict -/
def kOk : Kd → Prop
  | .str z => sOk (.str z)
  | .tup xs => ∀ x ∈ xs, sOk x
  | .lst xs => ∀ x ∈ xs, sOk x
  | .dct _ => False
  | _ => True
def eqS (v : V) (k : Str) : Bool := match v with
  | .str z => z == k
  | _ => false
theorem dp_all {K : PySem.W.Frag} {H : Hp} : ∀ {xs : List V}, (∀ x ∈ xs, sOk x) → ∃ ds, DpAll K H xs ds ∧ PyData.canLayAll0 ds = true ∧ PyData.depthAll ds ≤ 1
  | [], _ => ⟨[], .nil, rfl, by first | exact Nat.zero_le _ | decide⟩
  | x :: r, h => by
    obtain ⟨ds, h1, h2, h3⟩ := dp_all (xs := r) fun y hy => h y (by simp [hy])
    have hx := h x (by simp)
    cases x with
    | str z =>
      refine ⟨.str z :: ds, .cons (.str z) h1, ?_, ?_⟩
      · simp [PyData.canLayAll0, PyData.canLay0, h2, hx.2]
      · simp [PyData.depthAll, PyData.depth]; omega
    | int i =>
      refine ⟨.int i :: ds, .cons (.int i) h1, ?_, ?_⟩
      · simp [PyData.canLayAll0, PyData.canLay0, h2]
      · simp [PyData.depthAll, PyData.depth]; omega
    | _ => exact hx.elim
theorem is_dp {K : PySem.W.Frag} {H : Hp} {v : V} {k : Kd} (h : Is H v k) (ok : kOk k) : ∃ d, Dp K H v d ∧ SeqAt.shaped d = true ∧ ∀ z, PyData.eqv d (.str z) = eqS v z := by
  cases h with
  | str z => exact ⟨.str z, .str z, by unfold SeqAt.shaped; simp [PyData.canLay0, PyData.depth]; exact ok.2, fun z' => by simp [PyData.eqv, eqS]⟩
  | int i => exact ⟨.int i, .int i, by unfold SeqAt.shaped; simp [PyData.canLay0, PyData.depth], fun z' => by simp [PyData.eqv, eqS]⟩
  | bl b => exact ⟨.bool b, .bl b, by unfold SeqAt.shaped; simp [PyData.canLay0, PyData.depth], fun z' => by simp [PyData.eqv, eqS]⟩
  | non => exact ⟨.none, .non, by unfold SeqAt.shaped; simp [PyData.canLay0, PyData.depth], fun z' => by simp [PyData.eqv, eqS]⟩
  | tup h =>
    obtain ⟨ds, h1, h2, h3⟩ := dp_all (K := K) (H := H) ok
    refine ⟨.tuple ds, .tup (SqT.of h) h1, ?_, fun z' => by simp [PyData.eqv, eqS]⟩
    unfold SeqAt.shaped
    simp only [PyData.canLay0, h2, PyData.depth, Bool.true_and]
    exact decide_eq_true (by omega)
  | lst h =>
    obtain ⟨ds, h1, h2, h3⟩ := dp_all (K := K) (H := H) ok
    refine ⟨.list ds, .lst (SqL.of h) h1, ?_, fun z' => by simp [PyData.eqv, eqS]⟩
    unfold SeqAt.shaped
    simp only [PyData.canLay0, h2, PyData.depth, Bool.true_and]
    exact decide_eq_true (by omega)
  | dct h => exact ok.elim
/-- an entry of the partners passes -/
def entB (l : List (Str × V)) (p : Str × V) : Bool := match p.2 with
  | .str y => (match look l y with | some v => eqS v p.1 | none => false)
  | _ => false
def partB (l : List (Str × V)) : Bool := !l.isEmpty && (l.map (·.1)).all wordB && l.all (entB l)
theorem Same.lock {H H' : Hp} {d : Addr} {u o : HO} (hd : H d = some u) (e : Same (upd H d o) H') : Same H (upd H' d u) := fun b x hb => by
  by_cases h : b = d
  · subst h
    rw [upd_same]
    rw [hd] at hb
    exact hb
  · rw [upd_ne h]
    exact e b x (by rw [upd_ne h]; exact hb)
theorem Is.lock {H : Hp} {d : Addr} {u' : List (Key × V)} {o : HO} {v : V} {k : Kd} (h : Is H v k) (ok : kOk k) (hd : H d = some (.dK u')) : Is (upd H d o) v k := by
  cases h with
  | str z => exact .str z
  | int i => exact .int i
  | bl b => exact .bl b
  | non => exact .non
  | tup h => exact .tup (by rw [upd_ne (ne_of h hd (by intro z; cases z))]; exact h)
  | lst h => exact .lst (by rw [upd_ne (ne_of h hd (by intro z; cases z))]; exact h)
  | dct h => exact ok.elim
section
variable {P : Program} {w : World} {K : PySem.W.Frag} {mg : Str → Option Value} {base : Heap}
theorem h64_of {A : Around} {k : Nat} (hr : Room k A) : A.units + 64 < cLine := by
  have := hr.un
  omega
theorem Is.str_inv {H : Hp} {v : V} {y : Str} (h : Is H v (.str y)) : v = .str y := by
  cases h
  rfl
theorem all_no {l : List (Str × V)} {p : Str × V} (h : p ∈ l) (e : entB l p = false) : l.all (entB l) = false := by
  rw [List.all_eq_false]
  exact ⟨p, h, by rw [e]; decide⟩
theorem entB_no {l : List (Str × V)} {p : Str × V} {H : Hp} {k : Kd} (h : Is H p.2 k) (e : isStrK k = false) : entB l p = false := by
  unfold entB
  cases k with
  | str z => cases e
  | _ => 
    generalize p.2 = v at h
    cases h <;> rfl
theorem entB_str {l : List (Str × V)} {p : Str × V} {y : Str} (h : p.2 = .str y) : entB l p = (match look l y with | some v => eqS v p.1 | none => false) := by
  unfold entB
  rw [h]
/-- what _are_partners answers for a value -/
inductive PartV (H : Hp) : V → Bool → Prop
  | no {x : V} {k : Kd} (h : Is H x k) (hk : isDctK k = false) : PartV H x false
  | dct {a : Addr} {l : List (Str × V)} (h : H a = some (.dK (sk l))) (hl : l.length ≤ 100) (hk : ∀ p ∈ l, sOk (.str p.1)) (hv : ∀ p ∈ l, ∃ k, Is H p.2 k ∧ kOk k) : PartV H (.ref a) (partB l)
def spArePart : Sp := fun vs H Q _ => ∃ (x : V) (r : Bool), vs = [x] ∧ PartV H x r ∧ ∀ H', Same H H' → Q (.bl r) H'
theorem ok_arePart {f fW : Addr} {fd fdW : FuncData} (F : Fun K "_are_partners" "_are_partners" sArePart f fd) (dW : D K mg "is_word" sIsWord ["thing"] fW fdW) (GW : FnOk P w K mg base CX0 2 fW fdW ["thing"] spIsWord) (B : Bi mg) :
    FnOk P w K mg base CX0 3 f fd ["partners"] spArePart := by
  refine F.ok scArePart (fun vs H Q E h => ?_) (fun cdv A outer s H vs Q E hr h => ?_)
  · obtain ⟨x, r, rfl, _⟩ := h
    rfl
  · obtain ⟨x, r, rfl, hP, q⟩ := h
    have hu := hu_of hr
    refine ⟨_, pss_cons (ps_if (PW.pt (pw_or (pt_not (pt_val (pe_callB call_isi (by rfl) B.isi boot_isinstance (pa_cons (pv 0) (pa_cons (pe_bltn (by rfl) B.dict boot_dict (v := .ty "dict") rfl) pa_nil)))))
        (pw_or1 (pt_not (pt_truth (pv 0) (by intro _; rfl)))))) (pss_one (ps_ret pe_bl)) pss_nil)
      (pss_cons (ps_if (pt_not (pt_val (pe_callB (cr_all rfl) (by rfl) B.all boot_all (pa_cons
          (pe_lock (pe_lc (own := [("kind", 1)]) (g := gName 1) (tt := tYes) rfl scArePart.nd (pi_keys (pv 0)) (blkOk_by (own := [("kind", 1)]) (N := ["partners", "kind", "other"]) (sc := defScope sArePart) (by decide +kernel))
            (fun _ _ _ _ _ => pg_name (i := 1) scArePart.nd rfl (Or.inl rfl)) (fun _ _ _ _ _ => pts_nil)
            (fun _ _ _ _ _ => pe_call GW hr (by rfl) dW.m dW.F.kp dW.b .nil pass0 (pa_cons (pv 1) pa_nil)))) pa_nil)))) (pss_one (ps_ret pe_bl)) pss_nil)
      (pss_cons (ps_lock (ps_for PassesOwn.never rfl (pi_items (pv 0)) (pg_tup rfl (pgs_cons (pg_name (i := 1) scArePart.nd rfl (.inl rfl)) (pgs_cons (pg_name (i := 2) scArePart.nd rfl (.inl rfl)) pgs_nil)))
          (pss_cons (ps_if (PW.pt (pw_or (pt_not (pt_val (pe_callB call_isi (by rfl) B.isi boot_isinstance (pa_cons (pv 2) (pa_cons (pe_bltn (by rfl) B.str boot_str (v := .ty "str") rfl) pa_nil)))))
              (pw_or1 (pt_cmp (pc_dnotin hu (pv 2) (pv 0)))))) (pss_one (ps_ret pe_bl)) pss_nil)
          (pss_one (ps_if (pt_cmpR (op_neD (h64_of hr)) (pe_dget hu (pv 0) (pv 2) (fun _ _ => rfl)) (pv 1) (nomark _)) (pss_one (ps_ret pe_bl)) pss_nil)))))
      (pss_one (ps_ret pe_bl)))), ?_⟩
    cases hP with
    | no h hk =>
      refine ⟨_, rfl, _, _, _, _, _, rfl, .ty "dict", h.ty, kit_dct _, _, rfl, ?_⟩
      rw [hk]
      exact q H (Same.refl _)
    | @dct a l h hl hk hv =>
      refine ⟨_, rfl, _, _, _, _, _, rfl, .ty "dict", (Is.dct h).ty, kit_dct _, _, rfl, ?_⟩
      refine ⟨_, rfl, !l.isEmpty, .inr (.inr ⟨_, h, ?_⟩), ?_⟩
      · cases l <;> rfl
      cases hne : l.isEmpty with
      | true =>
        have e : partB l = false := by unfold partB; rw [hne]; rfl
        rw [e] at q
        exact q H (Same.refl _)
      | false =>
        show if (!true) = true then _ else _
        rw [if_neg (by decide)]
        -- all(..)
        refine ⟨a, _, h, True.intro, fun od => ⟨_, rfl, a, od, rfl, .inl ⟨_, upd_same, fun L nL => ?_⟩⟩⟩
        have nLa : L ≠ a := fun e => by rw [e, upd_same] at nL; cases nL
        have nL0 : H L = none := by rw [upd_ne nLa] at nL; exact nL
        refine lc_keys (fun i H2 => H2 L = some (.lst (((l.take i).map fun p => wordB p.1).map V.bl)) ∧ H2 a = some (.frz od (.dK (sk l))) ∧ ∀ b o, b ≠ L → b ≠ a → H b = some o → H2 b = some o)
          ⟨upd_same, by rw [upd_ne nLa.symm, upd_same], fun b o n1 n2 e => by rw [upd_ne n1, upd_ne n2]; exact e⟩ (fun i H2 p => p.2.1) ?_ ?_
        · rintro i k v H2 hkv ⟨e1, e2, e3⟩
          obtain ⟨p, hp, rfl, rfl⟩ : ∃ p, l[i]? = some p ∧ k = Sum.inr p.1 ∧ v = p.2 := by
            unfold sk at hkv
            rw [List.getElem?_map] at hkv
            cases hp : l[i]? with
            | none => rw [hp] at hkv; cases hkv
            | some p =>
              rw [hp] at hkv
              have := Option.some.inj hkv
              exact ⟨p, rfl, (congrArg Prod.fst this).symm, (congrArg Prod.snd this).symm⟩
          have hi : i < l.length := (List.getElem?_eq_some_iff.mp hp).1
          refine ⟨rfl, _, rfl, _, .str p.1, rfl, .str p.1, fun z ez => ?_, fun H3 s3 => ?_⟩
          · cases ez
            exact (hk p (List.mem_of_getElem? hp)).1
          · refine ⟨_, s3 _ _ e1, ?_, ?_, ?_, ?_⟩
            · rw [List.length_map, List.length_map, List.length_take]
              exact small1000 (by omega)
            · rw [upd_same, List.take_add_one, hp, List.map_append, List.map_append]
              rfl
            · rw [upd_ne nLa.symm]
              exact s3 _ _ e2
            · intro b o n1 n2 e
              rw [upd_ne n1]
              exact s3 _ _ (e3 b o n1 n2 e)
        · rintro H2 ⟨e1, e2, e3⟩
          refine ⟨e2, L, _, rfl, SqL.of (by rw [upd_ne nLa]; exact e1), ?_⟩
          have el : l.take (sk l).length = l := by unfold sk; rw [List.length_map]; exact List.take_length
          rw [el]
          have s2 : Same H (upd H2 a (.dK (sk l))) := fun b o e => by
            by_cases hb : b = a
            · rw [hb, upd_same]; rw [hb, h] at e; exact e
            · rw [upd_ne hb]; exact e3 b o (ne_of_none e nL0) hb e
          generalize (upd H2 a (.dK (sk l))) = H3 at s2
          have ea : ((l.map fun p => wordB p.1).all id) = (l.map (·.1)).all wordB := by
            rw [List.all_map, List.all_map]; rfl
          rw [ea]
          refine ⟨_, rfl, ?_⟩
          cases hw : (l.map (·.1)).all wordB with
          | false =>
            have e : partB l = false := by unfold partB; rw [hw, Bool.and_false, Bool.false_and]
            rw [e] at q
            exact q H3 s2
          | true =>
            have e : partB l = l.all (entB l) := by unfold partB; rw [hne, hw]; rfl
            rw [e] at q
            show if (!true) = true then _ else _
            rw [if_neg (by decide)]
            have h3 := s2 _ _ h
            refine ⟨a, _, h3, True.intro, fun od2 => ⟨_, rfl, a, od2, _, rfl, upd_same, ?_⟩⟩
            refine for_items (fun i σ H4 => ∃ v1 v2, σ = [some (.ref a), v1, v2] ∧ Same (upd H3 a (.frz od2 (.dK (sk l)))) H4 ∧ (l.take i).all (entB l) = true) ⟨none, none, rfl, Same.refl _, rfl⟩ (fun i σ H4 ⟨_, _, _, s4, _⟩ => s4 _ _ upd_same) ?_ ?_
            · rintro i k v T σ H4 hkv nT ⟨v1, v2, rfl, s4, hall⟩
              obtain ⟨p, hp, rfl, rfl⟩ : ∃ p, l[i]? = some p ∧ k = Sum.inr p.1 ∧ v = p.2 := by
                unfold sk at hkv
                rw [List.getElem?_map] at hkv
                cases hp : l[i]? with
                | none => rw [hp] at hkv; cases hkv
                | some p =>
                  rw [hp] at hkv
                  have := Option.some.inj hkv
                  exact ⟨p, rfl, (congrArg Prod.fst this).symm, (congrArg Prod.snd this).symm⟩
              have hpm := List.mem_of_getElem? hp
              refine ⟨T, _, rfl, SqT.of upd_same, rfl, _, _, rfl, _, _, rfl, rfl, ?_⟩
              have s5 : Same (upd H3 a (.frz od2 (.dK (sk l)))) (upd H4 T (.tup [V.str p.1, p.2])) := s4.trans (same_upd nT)
              obtain ⟨kd, hkd, hok⟩ := hv p hpm
              have is5 : Is (upd H4 T (.tup [V.str p.1, p.2])) p.2 kd := ((hkd.same s2).lock (o := .frz od2 (.dK (sk l))) hok h3).same s5
              have a5 : (upd H4 T (.tup [V.str p.1, p.2])) a = some (.frz od2 (.dK (sk l))) := s5 _ _ upd_same
              have q5 : ∀ {r : Bool}, l.all (entB l) = r → Q (.bl r) (upd (upd H4 T (.tup [V.str p.1, p.2])) a (.dK (sk l))) := fun {r} er => by
                rw [er] at q
                exact q _ (s2.trans (Same.lock h3 s5))
              refine ⟨_, rfl, _, _, _, _, _, rfl, .ty "str", is5.ty, kit_str kd, _, rfl, ?_⟩
              cases hsk : isStrK kd with
              | false =>
                refine ⟨a5, q5 (all_no hpm (entB_no hkd hsk))⟩
              | true =>
                obtain ⟨y, rfl⟩ : ∃ y, kd = .str y := by
                  cases kd with
                  | str z => exact ⟨z, rfl⟩
                  | _ => cases hsk
                have ey := hkd.str_inv
                show if (!true) = true then _ else _
                rw [if_neg (by decide)]
                refine ⟨_, rfl, _, rfl, a, _, rfl, .inl ⟨_, Sum.inr y, .inr ⟨od2, a5⟩, by rw [ey]; rfl, rfl⟩, _, rfl, ?_⟩
                rw [sk_val]
                cases hlk : look l y with
                | none =>
                  refine ⟨a5, q5 (all_no hpm ?_)⟩
                  rw [entB_str ey, hlk]
                | some v =>
                  show if (!true) = true then _ else _
                  rw [if_neg (by decide)]
                  have hvm : (y, v) ∈ l := look_mem hlk
                  obtain ⟨kd2, hkd2, hok2⟩ := hv (y, v) hvm
                  obtain ⟨d2, dp2, sh2, eq2⟩ := is_dp (K := K) (((hkd2.same s2).lock (o := .frz od2 (.dK (sk l))) hok2 h3).same s5) hok2
                  refine ⟨_, rfl, _, rfl, a, v, rfl, ?_, _, rfl, d2, .str p.1, dp2, .str p.1, sh2, ?_, _, rfl, ?_⟩
                  · exact .inl ⟨_, Sum.inr y, .inr ⟨od2, a5⟩, by rw [ey]; rfl, by rw [sk_val, hlk]⟩
                  · unfold SeqAt.shaped
                    simp [PyData.canLay0, PyData.depth]
                    exact (hk p hpm).2
                  rw [eq2 p.1]
                  cases he : eqS v p.1 with
                  | false =>
                    refine ⟨a5, q5 (all_no hpm ?_)⟩
                    rw [entB_str ey, hlk]
                    exact he
                  | true =>
                    refine ⟨_, _, rfl, s5, ?_⟩
                    rw [List.take_add_one, hp, List.all_append, hall]
                    simp only [Option.toList, List.all_cons, List.all_nil, Bool.and_true, Bool.true_and]
                    rw [entB_str ey, hlk]
                    exact he
            · rintro σ H4 ⟨v1, v2, rfl, s4, hall⟩
              refine ⟨s4 _ _ upd_same, ?_⟩
              have el : l.take (sk l).length = l := by unfold sk; rw [List.length_map]; exact List.take_length
              rw [el] at hall
              rw [hall] at q
              exact q _ (s2.trans (Same.lock h3 s4))
end
end K1

set_option Elab.async false
set_option linter.all false
set_option maxRecDepth 100000
set_option maxHeartbeats 1000000
namespace K1
open PySem PySem.Spec PyProof.Rows L2
/-! ### a dict with None among its keys -/
def okV : Option Key → V
  | none => .non
  | some k => kV k
def nkO (P : Program) (w : World) (a : Addr) (okvs : List (Option Key × V)) : HO :=
  .ext fun h => okvs.length ≤ sizeLine ∧ (a == sysModules) = false ∧ ∃ vs, KV okvs vs ∧ h.DictOf (noneKind P w) a vs
def optK {β : Type} (kvs : List (Key × β)) : List (Option Key × β) := kvs.map fun p => (some p.1, p.2)
theorem kv_opt : ∀ {kvs : List (Key × V)} {vs : List (Key × Value)}, KV kvs vs → KV (optK kvs) (optK vs)
  | _, _, .nil => .nil
  | _, _, .cons r t => .cons ⟨congrArg some r.1, r.2⟩ (kv_opt t)
theorem opt_nodup : ∀ {vs : List (Key × Value)}, (vs.map (·.1)).Nodup → ((optK vs).map (·.1)).Nodup
  | [], _ => List.nodup_nil
  | p :: r, h => by
    rw [List.map_cons, List.nodup_cons] at h
    show ((some p.1) :: (optK r).map (·.1)).Nodup
    refine List.nodup_cons.mpr ⟨fun hm => h.1 ?_, opt_nodup h.2⟩
    obtain ⟨q, hq, e⟩ := List.mem_map.mp hm
    obtain ⟨q', hq', rfl⟩ := List.mem_map.mp hq
    have e' : q'.1 = p.1 := Option.some.inj e
    rw [← e']
    exact List.mem_map_of_mem hq'
theorem dict_opt {P : Program} {w : World} {h : Heap} {a : Addr} {vs : List (Key × Value)} (d : h.DictOf (mixKind P w) a vs) : h.DictOf (noneKind P w) a (optK vs) := by
  obtain ⟨o, es, ep, ho, hx, hdt, hk, hp, hn⟩ := d
  refine ⟨o, es, ep, ho, hx, hdt, fun e he => ?_, ?_, opt_nodup hn⟩
  · obtain ⟨k, h1, h2⟩ := hk e he
    exact ⟨some k, h1, h2⟩
  · clear hdt hk hn
    revert hp
    generalize es.toList = l
    intro hp
    induction hp with
    | nil => exact .nil
    | cons h1 h2 t ih => exact .cons h1 h2 ih
theorem stored_new {κ : Type} [DecidableEq κ] {kvs : List (κ × Value)} {k : κ} (v : Value) (h : ∀ p ∈ kvs, p.1 ≠ k) : stored kvs k v = kvs ++ [(k, v)] := by
  unfold stored
  rw [if_neg]
  intro e
  obtain ⟨p, hp, e⟩ := List.any_eq_true.mp e
  exact h p hp (by simpa using e)
section
variable {X : Cx} {pins : List (Addr × Obj)} {σ : L2.St} {H : Hp} {s : Shared} {a : Addr} {A : Around} {E : Value → Shared → Prop}
theorem nk_new {P : Program} {w : World} {H' : Hp} {h' : Heap} {okvs : List (Option Key × V)} {vs : List (Option Key × Value)} (z : okvs.length ≤ sizeLine) (hd : (a == sysModules) = false) (rel : KV okvs vs) (dd : h'.DictOf (noneKind P w) a vs) :
    ObjOk P w H' h' a (nkO P w a okvs) := by
  refine ⟨⟨z, hd, vs, rel, dd⟩, let ⟨q, _, _, hq, _⟩ := dd; ⟨q, hq⟩, fun h1 h2 ⟨z, hd, vs, rel, o, es, ep, ho, r⟩ k => ⟨z, hd, vs, rel, o, es, ep, k _ ho, r⟩⟩
/-- d[None] = v -/
theorem d_setNone {kvs : List (Key × V)} {v : V} {r : Value} {Q : Unit → Shared → Prop} (I : Inv X pins σ H s) (e : H a = some (.dK kvs)) (hl : kvs.length < sizeLine) (rv : RelV v r)
    (h : ∀ s', Inv X pins σ (upd H a (nkO X.prog X.w a (optK kvs ++ [(none, v)]))) s' → Q () s') : wpAny (model X.prog X.w) A (setItem (.ref a) .none r) Q E s := by
  obtain ⟨z, hd, vs, rel, dd⟩ := dk_of I.hok e
  have hz : (optK vs).length ≤ sizeLine := by unfold optK; rw [List.length_map, ← rel.length]; exact z
  refine wpAny_setItem_pairs (knd := noneKind X.prog X.w) (k := none) (hsz := hz) rfl (dict_opt dd) fun h' dd' hs => h _ ?_
  have he : ∃ q, h'.get? a = some q := let ⟨q, _, _, hq, _⟩ := dd'; ⟨q, hq⟩
  rw [stored_new r (fun p hp => by
    obtain ⟨q, _, rfl⟩ := List.mem_map.mp hp
    exact fun z => nomatch z)] at dd'
  refine d_write I (by rw [e]; exact True.intro) hs he (nk_new ?_ hd ?_ dd')
  · rw [List.length_append]; unfold optK; rw [List.length_map]; show kvs.length + 1 ≤ _; omega
  · have h1 := kv_opt rel
    have app : ∀ {xs : List (Option Key × V)} {ys : List (Option Key × Value)}, KV xs ys → KV (xs ++ [(none, v)]) (ys ++ [(none, r)]) := fun {xs ys} q => by
      unfold KV at q
      induction q with
      | nil => exact .cons ⟨rfl, rv⟩ .nil
      | cons r t ih => exact .cons r ih
    exact app h1
end
section
variable {X : Cx}
/-- a store into a dict: the key an int or a text, or None -/
def rSetN (P : Program) (w : World) : TSet := fun o i v H Q => ∃ a kvs, o = .ref a ∧ H a = some (.dK kvs) ∧ kvs.length < sizeLine ∧ ((∃ k, i = kV k ∧ Q (upd H a (.dK (putK kvs k v)))) ∨ (i = .non ∧ Q (upd H a (nkO P w a (optK kvs ++ [(none, v)])))))
theorem set_n (hu : X.A.units + 1 < cLine) : PSet X (rSetN X.prog X.w) := by
  intro pins s σ H o i v ov iv u Q I ro ri rv h
  obtain ⟨a, kvs, rfl, e, hl, h⟩ := h
  obtain rfl : ov = Value.ref a := ro
  rcases h with ⟨k, rfl, q⟩ | ⟨rfl, q⟩
  · exact d_setItem hu I (DPut.k e hl) ri rv fun s' I' => ⟨_, I', q⟩
  · obtain rfl : iv = Value.none := ri
    exact d_setNone I e hl rv fun s' I' => ⟨_, I', q⟩
/-- isinstance of such a dict -/
theorem call_isiN : CallR X (.builtin "isinstance") (fun xs H Q => rIsi X.K xs H Q ∨ ∃ a okvs, xs = [.ref a, .ty "dict"] ∧ H a = some (nkO X.prog X.w a okvs) ∧ Q (.bl true) H) := by
  intro pins s σ H xs us Q I r h
  rcases h with h | ⟨a, okvs, rfl, e, q⟩
  · exact call_isi pins s σ H xs us Q I r h
  · obtain ⟨u1, u2, rfl, r1, r2⟩ := vals2 r
    obtain rfl : u1 = Value.ref a := r1
    obtain rfl : u2 = Value.type "dict" := r2
    obtain ⟨⟨_, _, vs, _, o, es, ep, h1, h2, _⟩, _, _⟩ := I.hok a _ e
    exact PySem.W.kia_one (PySem.W.kitx_dict) I.kIn (⟨o, h1, h2.1⟩ : _) (kit_ty (a := "dict") (b := "dict") (r := true) (by decide +kernel)) (by intro z; nomatch z) fun tk => ⟨.bl true, H, I.tok tk, rfl, q⟩
end
/-! ### its keys, walked while it is locked; its values, read -/
def ItkN (P : Program) (w : World) (d : Addr) (o : Obj) (okvs : List (Option Key × V)) : It :=
  ⟨fun i H => H d = some (.frz o (nkO P w d okvs)) ∧ i < okvs.length, fun i H x H' => H' = H ∧ ∃ k v, okvs[i]? = some (k, v) ∧ x = okV k, fun i H => H d = some (.frz o (nkO P w d okvs)) ∧ okvs.length ≤ i⟩
section
variable {X : Cx} {pins : List (Addr × Obj)} {σ : L2.St} {H : Hp} {s : Shared} {d : Addr} {o : Obj}
theorem frzN {okvs : List (Option Key × V)} (I : Inv X pins σ H s) (h : H d = some (.frz o (nkO X.prog X.w d okvs))) :
    (d == sysModules) = false ∧ s.heap.get? d = some o ∧ o.ExactDict ∧ ∃ (es : Array DictEntry) (ep : Nat) (vs : List (Option Key × Value)), o.data = .dict es ep ∧ es.size = okvs.length ∧ KV okvs vs ∧ s.heap.DictAt (noneKind X.prog X.w) d vs ep := by
  obtain ⟨hd, ⟨z, hs, vs, kv, o', es, ep, ho, hx, hdt, r⟩, _, _⟩ := I.hok d _ h
  rw [hd] at ho
  cases ho
  refine ⟨hs, hd, hx, es, ep, vs, hdt, ?_, kv, o, es, hd, hx, hdt, r⟩
  have l1 := r.2.1.length
  have l2 : okvs.length = vs.length := Paired.length kv
  rw [Array.length_toList] at l1
  omega
theorem relV_okey {k : Option Key} {u : Value} (h : nkIs k u = true) : RelV (okV k) u := by
  cases k with
  | none => exact nk_none h
  | some k => exact relV_key h
end
section
variable {P : Program} {w : World} {K : PySem.W.Frag} {tg : Expr} {d : Addr} {o : Obj} {es : Array DictEntry} {ep : Nat}
theorem turn_keysN {okvs : List (Option Key × V)} (it : Addr) (hod : o.data = .dict es ep) : Turn P w K tg (ItkN P w d o okvs) [it] it (fun i h => h.IsKeyIter it d i okvs.length ep) where
  mem := by simp
  obj := fun i h st b hb => by
    have e : b = it := by simpa using hb
    subst e
    obtain ⟨oi, e, c, dd⟩ := st
    exact ⟨oi, e, fun v z => by rw [dd] at z; cases z⟩
  keep := fun i h h' st k => st.at fun oi e => k it (by simp) oi e
  item := by
    intro X hP hw hK hc i pins s σ H E I hf st hg
    subst hP hw hK
    obtain ⟨hd, hi⟩ := hg
    obtain ⟨f0, f1, f2, f3, f4, f5⟩ := hf it (by simp)
    obtain ⟨hs, hgd, hx, es', ep', vs, hdt, hsz, kv, hm⟩ := frzN I hd
    obtain ⟨rfl, rfl⟩ := dict_ep hod hdt
    obtain ⟨⟨k, v⟩, hkv⟩ : ∃ p, okvs[i]? = some p := ⟨okvs[i], List.getElem?_eq_getElem hi⟩
    obtain ⟨u, hu, ru⟩ := kv_get kv hkv
    have hl : okvs.length = vs.length := Paired.length kv
    rw [hl] at st
    refine wpAny_pyNext_dict_item st hm hu fun key h' hkey st' sb => ?_
    have I1 : Inv X pins σ H { s with heap := h' } := I.turned (t' := s.toks) (fun b ob hb e => (sb.2 b hb).trans e) f0 f1 f3 f4 f5
    obtain ⟨oi, e, c, dd⟩ := id st'
    refine ⟨key, rfl, go_of (s := { s with heap := h' }) e c dd (by decide) ⟨okV k, H, I1, relV_okey (show nkIs k key = true from hkey), ⟨rfl, k, v, hkv, rfl⟩, ?_, fun b hb => (hf b hb).1⟩⟩
    show h'.IsKeyIter it d (i + 1) okvs.length _
    rw [hl]
    exact st'
  done := by
    intro X hP hw hK hc i pins s σ H E I hf st hg
    subst hP hw hK
    obtain ⟨hd, hi⟩ := hg
    obtain ⟨f0, f1, f2, f3, f4, f5⟩ := hf it (by simp)
    obtain ⟨hs, hgd, hx, es', ep', vs, hdt, hsz, kv, hm⟩ := frzN I hd
    obtain ⟨rfl, rfl⟩ := dict_ep hod hdt
    exact next_key_end (I.ok.hd hc) st hgd hdt hsz hi fun h' eb => ⟨rfl, I.turned (t' := s.toks) (fun b ob hb e => eb b ob hb e) f0 f1 f3 f4 f5⟩
  self := fun A i s Q E st h => wpAny_pyIter_keyiter st h
end
section
variable {X : Cx} {tg e o i : Expr} {td ty : TE} {pos : Pos}
def iKeysN (P : Program) (w : World) (td : TE) : TI := fun σ H R => td σ H fun x H1 => ∃ d o, x = .ref d ∧ ((∃ kvs, H1 d = some (.frz o (.dK kvs)) ∧ R (Itk d o kvs) H1) ∨ ∃ okvs, H1 d = some (.frz o (nkO P w d okvs)) ∧ R (ItkN P w d o okvs) H1)
theorem pi_keysN (he : PE X e td) : PI X tg e (iKeysN X.prog X.w td) := by
  refine ⟨fun pins s σ H R I h => ?_⟩
  refine thn (he.run pins s σ H _ I h) fun u s1 ⟨x, H1, I1, rx, d, o, ex, q⟩ => ?_
  subst ex
  obtain rfl : u = Value.ref d := rx
  rcases q with ⟨kvs, hd, q⟩ | ⟨okvs, hd, q⟩
  · obtain ⟨hs, hgd, hx, es, ep, vs, hdt, hsz, kv, hm⟩ := I1.frzK hd
    refine iter_keys hs hgd hx hdt (pi_one (tk := s1.toks) I1 _ (turn_keys _ hdt) ⟨_, Heap.get?_push_size _ rfl, rfl, ?_⟩ q)
    rw [hsz] <;> rfl
  · obtain ⟨hs, hgd, hx, es, ep, vs, hdt, hsz, kv, hm⟩ := frzN I1 hd
    refine iter_keys hs hgd hx hdt (pi_one (tk := s1.toks) I1 _ (turn_keysN _ hdt) ⟨_, Heap.get?_push_size _ rfl, rfl, ?_⟩ q)
    rw [hsz] <;> rfl
def tDGetN (P : Program) (w : World) (td ty : TE) : TE := fun σ H Q => td σ H fun x H1 => ty σ H1 fun y H2 => ∃ a v, x = .ref a ∧ (DGet H2 a y (some v) ∨ ∃ okvs k, Rd H2 a (nkO P w a okvs) ∧ y = kV k ∧ valV okvs (some k) = some v) ∧ Q v H2
theorem pe_dgetN (hu : X.A.units + 1 < cLine) (ho : PE X o td) (hi : PE X i ty) (hs : NoSl i) : PE X (.Subscript o i pos) (tDGetN X.prog X.w td ty) := by
  refine ⟨fun pins s σ H Q I h => ?_⟩
  refine subD_of PySem.F.slot_dict_getitem.lookup hs (thn (ho.run pins s σ H _ I h) fun u s1 ⟨x, H1, I1, rx, q1⟩ => thn (hi.run pins s1 σ H1 _ I1 q1) fun iv s2 ⟨y, H2, I2, ry, a, v, ex, g, q2⟩ => ?_)
  subst ex
  obtain rfl : u = Value.ref a := rx
  rcases g with g | ⟨okvs, k, e, rfl, l⟩
  · exact ⟨dict_typeIs I2 g, d_getItem hu I2 g ry fun w' s3 I3 rw' => ⟨v, H2, I3, rw', q2⟩⟩
  · obtain ⟨⟨z, hd, vs, rel, dd⟩, _, _⟩ := (show ObjOk X.prog X.w H2 s2.heap a (nkO X.prog X.w a okvs) from e.ok I2.hok)
    obtain ⟨w', hw, rw'⟩ := RelO.some_of (v := v) (o := valueAt vs (some k)) (by rw [← l]; exact rel.val (some k))
    exact ⟨dd.typeIs, wpAny_getItem_of (knd := noneKind X.prog X.w) (k := some k) (kV_is (P := X.prog) (w := X.w) ry) dd.mapOf hw ⟨v, H2, I2.tok _, rw', q2⟩⟩
end
theorem lc_keysN {P : Program} {w : World} {d : Addr} {o : Obj} {kvs : List (Option Key × V)} {g : TG} {tt : TT} {te : TE} {vs : List Nat} {σ : L2.St} {H1 : Hp} {D : Addr} {Qd : Hp → Prop} (Pv : Nat → Hp → Prop) (h0 : Pv 0 (upd H1 D (.lst []))) (hl : ∀ i H, Pv i H → H d = some (.frz o (nkO P w d kvs)))
    (hs : ∀ i k v H, kvs[i]? = some (k, v) → Pv i H → g (okV k) (wipe σ vs) H fun σ2 H2 => wipe σ2 vs = wipe σ vs ∧ tt σ2 H2 fun b H3 =>
      if b = true then te σ2 H3 fun y H4 => ∃ acc, H4 D = some (.lst acc) ∧ acc.length < sizeLine ∧ Pv (i + 1) (upd H4 D (.lst (acc ++ [y]))) else Pv (i + 1) H3) (hd : ∀ H, Pv kvs.length H → Qd H) :
    ∃ W : Nat → Nat → Hp → Prop, (∃ m, W 0 m (upd H1 D (.lst []))) ∧ ∀ i m H, W i m H →
      ((ItkN P w d o kvs).stop i H ∧ Qd H) ∨ ((ItkN P w d o kvs).go i H ∧ ∃ Nx : Hp → Prop, (∀ H', Nx H' → ∃ m', m' < m ∧ W (i + 1) m' H') ∧ ∀ x H', (ItkN P w d o kvs).yld i H x H' → g x (wipe σ vs) H' fun σ2 H2 => wipe σ2 vs = wipe σ vs ∧ tt σ2 H2 fun b H3 =>
        if b = true then te σ2 H3 fun y H4 => ∃ acc, H4 D = some (.lst acc) ∧ acc.length < sizeLine ∧ Nx (upd H4 D (.lst (acc ++ [y]))) else Nx H3) := by
  refine ⟨fun i m H => m = kvs.length - i ∧ i ≤ kvs.length ∧ Pv i H, ⟨kvs.length, by simp, Nat.zero_le _, h0⟩, ?_⟩
  rintro i m H ⟨rfl, hi, p⟩
  have q := hl i H p
  by_cases hlt : i < kvs.length
  · refine .inr ⟨⟨q, hlt⟩, Pv (i + 1), fun H' p' => ⟨kvs.length - (i + 1), by omega, rfl, hlt, p'⟩, fun x H' y => ?_⟩
    obtain ⟨e, k, v, hk, ex⟩ := y
    subst e
    subst ex
    exact hs i k v _ hk p
  · have e : i = kvs.length := by omega
    subst e
    exact .inl ⟨⟨q, Nat.le_refl _⟩, hd H p⟩
end K1

set_option Elab.async false
set_option linter.all false
set_option maxRecDepth 100000
set_option maxHeartbeats 1000000
namespace K1
open PySem PySem.Spec PyProof.Rows L2
theorem lt_same : ∀ a b : List Nat, ltCps a b = false → ltCps b a = false → a = b
  | [], [], _, _ => rfl
  | [], _ :: _, h, _ => by cases h
  | _ :: _, [], _, h => by cases h
  | a :: r, b :: t, h1, h2 => by
    unfold ltCps at h1 h2
    rw [Bool.or_eq_false_iff, Bool.and_eq_false_iff] at h1 h2
    have x1 := of_decide_eq_false h1.1
    have x2 := of_decide_eq_false h2.1
    have e : a = b := by omega
    subst e
    have y1 : ltCps r t = false := by
      rcases h1.2 with q | q
      · simp at q
      · exact q
    have y2 : ltCps t r = false := by
      rcases h2.2 with q | q
      · simp at q
      · exact q
    rw [lt_same r t y1 y2]
theorem le_trans : ∀ a b c : List Nat, ltCps b a = false → ltCps c b = false → ltCps c a = false
  | [], _, [], _, _ => rfl
  | _ :: _, [], [], h, _ => by cases h
  | [], _, _ :: _, _, _ => rfl
  | _ :: _, _ :: _, [], _, h => by cases h
  | _ :: _, [], _ :: _, h, _ => by cases h
  | x :: a, y :: b, z :: c, h1, h2 => by
    unfold ltCps at h1 h2 ⊢
    rw [Bool.or_eq_false_iff, Bool.and_eq_false_iff] at h1 h2 ⊢
    have x1 := of_decide_eq_false h1.1
    have x2 := of_decide_eq_false h2.1
    refine ⟨decide_eq_false (by omega), ?_⟩
    by_cases e : z = x
    · have e1 : y = x := by omega
      subst e
      subst e1
      refine .inr (le_trans a b c ?_ ?_)
      · rcases h1.2 with q | q
        · simp at q
        · exact q
      · rcases h2.2 with q | q
        · simp at q
        · exact q
    · exact .inl (by simpa using e)
def leS (a b : Str) : Prop := ltCps b.cps.toList a.cps.toList = false
theorem leS_trans {a b c : Str} (h1 : leS a b) (h2 : leS b c) : leS a c := le_trans _ _ _ h1 h2
theorem str_ext {a b : Str} (h : a.cps.toList = b.cps.toList) : a = b := by
  obtain ⟨⟨l⟩⟩ := a
  obtain ⟨⟨m⟩⟩ := b
  have h : l = m := h
  rw [h]
theorem leS_anti {a b : Str} (h1 : leS a b) (h2 : leS b a) : a = b := str_ext (lt_same _ _ h2 h1)
theorem rising_le : ∀ {p : Str} {l : List Str}, risingS p l = true → ∀ x ∈ l, leS p x
  | p, [], _, x, hx => by cases hx
  | p, y :: r, h, x, hx => by
    have h : (!ltCps y.cps.toList p.cps.toList && risingS y r) = true := h
    rw [Bool.and_eq_true, Bool.not_eq_true'] at h
    rcases List.mem_cons.mp hx with e | e
    · rw [e]; exact h.1
    · exact leS_trans h.1 (rising_le h.2 x e)
theorem sorted_head {x : Str} {r : List Str} (h : sortedS (x :: r) = true) : ∀ y ∈ x :: r, leS x y := fun y hy => by
  rcases List.mem_cons.mp hy with e | e
  · rw [e]
    show ltCps x.cps.toList x.cps.toList = false
    have q : ∀ l : List Nat, ltCps l l = false := fun l => by
      induction l with
      | nil => rfl
      | cons a r ih => unfold ltCps; simp [ih]
    exact q _
  · exact rising_le h y e
theorem sorted_tail {x : Str} {r : List Str} (h : sortedS (x :: r) = true) : sortedS r = true := by
  cases r with
  | nil => rfl
  | cons y t =>
    have h : (!ltCps y.cps.toList x.cps.toList && risingS y t) = true := h
    rw [Bool.and_eq_true] at h
    exact h.2
theorem sorted_one : ∀ {a b : List Str}, sortedS a = true → sortedS b = true → a.Perm b → a = b
  | [], b, _, _, p => by rw [List.Perm.nil_eq p]
  | x :: r, [], _, _, p => by cases p.symm.nil_eq
  | x :: r, y :: t, h1, h2, p => by
    have e : x = y := leS_anti (sorted_head h1 y (p.mem_iff.mpr (by simp))) (sorted_head h2 x (p.mem_iff.mp (by simp)))
    subst e
    rw [sorted_one (sorted_tail h1) (sorted_tail h2) (List.Perm.cons_inv p)]
end K1

set_option Elab.async false
set_option linter.all false
set_option maxRecDepth 100000
set_option maxHeartbeats 1000000
namespace K1
open PySem PySem.Spec PyProof.Rows L2
/-- an end's kind -/
def endB (l : List (Str × V)) (x : V) : Bool := match x with
  | .str z => (look l z).isSome
  | _ => false
def endsB (l : List (Str × V)) : Kd → Bool
  | .tup xs => decide (1 ≤ xs.length) && decide (xs.length ≤ 4) && xs.all (endB l)
  | _ => false
theorem sOk_is {H : Hp} {x : V} (h : sOk x) : (∃ z, x = .str z) ∨ ∃ i, x = .int i := by
  cases x with
  | str z => exact .inl ⟨z, rfl⟩
  | int i => exact .inr ⟨i, rfl⟩
  | _ => exact h.elim
/-- a dict, its keys texts -/
structure Pd (H : Hp) (a : Addr) (l : List (Str × V)) : Prop where
  at_ : H a = some (.dK (sk l))
section
variable {P : Program} {w : World} {K : PySem.W.Frag} {mg : Str → Option Value} {base : Heap}
def spAreEnds : Sp := fun vs H Q _ => ∃ (a : Addr) (l : List (Str × V)) (x : V) (k : Kd), vs = [.ref a, x] ∧ H a = some (.dK (sk l)) ∧ Is H x k ∧ kOk k ∧ (∀ xs, k = .tup xs → xs.length ≤ 100) ∧ ∀ H', Same H H' → Q (.bl (endsB l k)) H'
theorem ok_areEnds {f : Addr} {fd : FuncData} (F : Fun K "_are_ends" "_are_ends" sAreEnds f fd) (B : Bi mg) : FnOk P w K mg base CX0 1 f fd ["partners", "ends"] spAreEnds := by
  obtain ⟨tk, hme⟩ := B.me
  refine F.ok scAreEnds (fun vs H Q E h => ?_) (fun cdv A outer s H vs Q E hr h => ?_)
  · obtain ⟨a, l, x, k, rfl, _⟩ := h
    rfl
  · obtain ⟨a, l, x, k, rfl, ha, hx, ok, hlen, q⟩ := h
    have hu := hu_of hr
    refine ⟨_, pss_cons (ps_if (PW.pt (pw_or (pt_not (pt_val (pe_callB call_isi (by rfl) B.isi boot_isinstance (pa_cons (pv 1) (pa_cons (pe_bltn (by rfl) B.tuple boot_tuple (v := .ty "tuple") rfl) pa_nil)))))
        (pw_or1 (pt_not (pt_chain op_le op_le pe_int (pe_callB call_len_seq (by rfl) B.len PySem.boot_len (pa_cons (pv 1) pa_nil)) (pe_glob rfl hme (v := .int 4) ⟨_, rfl⟩)))))) (pss_one (ps_ret pe_bl)) pss_nil)
      (pss_one (ps_ret (pe_callB (cr_all rfl) (by rfl) B.all boot_all (pa_cons
        (pe_lc (own := [("kind", 2)]) (g := gName 2) (tt := tYes) rfl scAreEnds.nd (pi_tup (pv 1)) (blkOk_by (own := [("kind", 2)]) (N := ["partners", "ends", "kind"]) (sc := defScope sAreEnds) (by decide +kernel))
          (fun _ _ _ _ _ => pg_name (i := 2) scAreEnds.nd rfl (Or.inl rfl)) (fun _ _ _ _ _ => pts_nil)
          (fun _ _ _ _ _ => pe_and (pe_callB (show CallR _ _ (rIsi K) from call_isi) (by rfl) B.isi boot_isinstance (pa_cons (pv 2) (pa_cons (pe_bltn (by rfl) B.str boot_str (v := .ty "str") rfl) pa_nil))) (pe_one (pe_cmp (pc_din hu (pv 2) (pv 0)))))) pa_nil)))), ?_⟩
    refine ⟨_, rfl, _, _, _, _, _, rfl, .ty "tuple", hx.ty, kit_tup k, _, rfl, ?_⟩
    cases hk : isTupK k with
    | false =>
      have e : endsB l k = false := by cases k <;> first | rfl | cases hk
      rw [e] at q
      exact q H (Same.refl _)
    | true =>
      obtain ⟨xs, rfl⟩ : ∃ xs, k = .tup xs := by
        cases k with
        | tup xs => exact ⟨xs, rfl⟩
        | _ => cases hk
      obtain ⟨t, rfl, ht⟩ : ∃ t, x = .ref t ∧ H t = some (.tup xs) := by
        cases hx with
        | tup h => exact ⟨_, rfl, h⟩
      have hn := hlen xs rfl
      show if (!true) = true then _ else _
      rw [if_neg (by decide)]
      refine ⟨_, rfl, t, xs, rfl, .inr (SqT.of ht), _, _, rfl, rfl, _, rfl, ?_⟩
      by_cases h1 : (1 : Int) ≤ (xs.length : Int)
      · rw [decide_eq_true h1, if_pos rfl]
        refine ⟨_, _, rfl, rfl, _, rfl, ?_⟩
        by_cases h2 : (xs.length : Int) ≤ 4
        · rw [decide_eq_true h2]
          show if (!true) = true then _ else _
          rw [if_neg (by decide)]
          have hw : endsB l (.tup xs) = (xs.map (endB l)).all id := by
            show (decide (1 ≤ xs.length) && decide (xs.length ≤ 4) && xs.all (endB l)) = _
            rw [decide_eq_true (show 1 ≤ xs.length by omega), decide_eq_true (show xs.length ≤ 4 by omega), Bool.true_and, Bool.true_and, List.all_map]
            rfl
          refine ⟨_, rfl, t, rfl, ⟨_, SqT.of ht⟩, fun L nL => lc_tup (K := K) (a := t) (xs := xs) (fun i H2 => H2 = upd H L (.lst (((xs.take i).map (endB l)).map V.bl))) rfl (fun i H2 _ e => by rw [e]; exact SqT.of (by rw [upd_ne (ne_of_none ht nL)]; exact ht)) ?_ ?_⟩
          · rintro i y H2 hy rfl
            have hyo : sOk y := ok y (List.mem_of_getElem? hy)
            have hi : i < xs.length := (List.getElem?_eq_some_iff.mp hy).1
            have ha2 : (upd H L (.lst (((xs.take i).map (endB l)).map V.bl))) a = some (.dK (sk l)) := by rw [upd_ne (ne_of_none ha nL)]; exact ha
            have fin : ∀ b, endB l y = b → ∃ acc, (upd H L (.lst (((xs.take i).map (endB l)).map V.bl))) L = some (.lst acc) ∧ acc.length < sizeLine ∧ upd (upd H L (.lst (((xs.take i).map (endB l)).map V.bl))) L (.lst (acc ++ [.bl b])) = upd H L (.lst (((xs.take (i + 1)).map (endB l)).map V.bl)) := fun b hb => by
              refine ⟨_, upd_same, ?_, ?_⟩
              · rw [List.length_map, List.length_map, List.length_take]
                exact small1000 (by omega)
              · rw [upd_upd, List.take_add_one, hy, List.map_append, List.map_append, ← hb]
                rfl
            rcases sOk_is (H := H) hyo with ⟨z, rfl⟩ | ⟨j, rfl⟩
            · refine ⟨rfl, _, rfl, _, _, _, _, _, rfl, .ty "str", (Is.str z).ty, kit_str _, true, rfl, ?_⟩
              rw [if_pos rfl]
              refine ⟨_, rfl, _, rfl, a, _, rfl, DGet.k (k := Sum.inr z) ha2, ?_⟩
              rw [sk_val]
              exact fin _ rfl
            · refine ⟨rfl, _, rfl, _, _, _, _, _, rfl, .ty "str", (Is.int j).ty, kit_str _, false, rfl, ?_⟩
              rw [if_neg Bool.false_ne_true]
              exact fin _ rfl
          · rintro H2 rfl
            refine ⟨L, _, rfl, SqL.of upd_same, ?_⟩
            rw [List.take_length]
            rw [hw] at q
            exact q _ (same_upd nL)
        · rw [decide_eq_false h2]
          have hw : endsB l (.tup xs) = false := by
            show (decide (1 ≤ xs.length) && decide (xs.length ≤ 4) && xs.all (endB l)) = _
            rw [decide_eq_false (show ¬ xs.length ≤ 4 by omega), Bool.and_false, Bool.false_and]
          rw [hw] at q
          exact q _ (Same.refl _)
      · rw [decide_eq_false h1, if_neg Bool.false_ne_true]
        refine ⟨_, rfl, ?_⟩
        have hw : endsB l (.tup xs) = false := by
          show (decide (1 ≤ xs.length) && decide (xs.length ≤ 4) && xs.all (endB l)) = _
          rw [decide_eq_false (show ¬ 1 ≤ xs.length by omega), Bool.false_and, Bool.false_and]
        rw [hw] at q
        exact q _ (Same.refl _)
/-- an entry of the blocks: its key's kind, its value's kind -/
def keyK : Option Key → Kd
  | none => .non
  | some (.inl i) => .int i
  | some (.inr z) => .str z
def bEnt (l : List (Str × V)) (k : Option Key) (kd : Kd) : Bool := wordK (keyK k) && endsB l kd
theorem key_is {H : Hp} (k : Option Key) : Is H (okV k) (keyK k) := by
  cases k with
  | none => exact .non
  | some k => cases k with
    | inl i => exact .int i
    | inr z => exact .str z
theorem keyK_str {k : Option Key} {z : Str} (h : keyK k = .str z) : k = some (.inr z) := by
  cases k with
  | none => cases h
  | some k => cases k with
    | inl i => cases h
    | inr y => cases h; rfl
structure EntV (H : Hp) (l : List (Str × V)) (k : Option Key) (v : V) (b : Bool) : Prop where
  ex : ∃ kd, Is H v kd ∧ kOk kd ∧ (∀ xs, kd = .tup xs → xs.length ≤ 100) ∧ b = bEnt l k kd
  sz : ∀ z, k = some (.inr z) → z.length ≤ sizeLine
theorem EntV.lock {H : Hp} {l : List (Str × V)} {k : Option Key} {v : V} {b : Bool} {d : Addr} {u o : HO} (h : EntV H l k v b) (hd : H d = some u) (hu : (∃ kvs, u = .dK kvs) ∨ ∃ φ, u = .ext φ) : EntV (upd H d o) l k v b := by
  obtain ⟨⟨kd, h1, h2, h3⟩, h4⟩ := h
  refine ⟨⟨kd, ?_, h2, h3⟩, h4⟩
  have ne : ∀ {a xs}, H a = some (.tup xs) ∨ H a = some (.lst xs) → a ≠ d := fun {a xs} q => by
    rcases hu with ⟨kvs, rfl⟩ | ⟨φ, rfl⟩ <;> rcases q with q | q <;> exact ne_of q hd (by intro z; cases z)
  cases h1 with
  | str z => exact .str z
  | int i => exact .int i
  | bl b => exact .bl b
  | non => exact .non
  | tup h => exact .tup (by rw [upd_ne (ne (.inl h))]; exact h)
  | lst h => exact .lst (by rw [upd_ne (ne (.inr h))]; exact h)
  | dct h => exact h2.elim
theorem EntV.same {H H' : Hp} {l : List (Str × V)} {k : Option Key} {v : V} {b : Bool} (h : EntV H l k v b) (e : Same H H') : EntV H' l k v b := by
  obtain ⟨⟨kd, h1, h2, h3⟩, h4⟩ := h
  exact ⟨⟨kd, h1.same e, h2, h3⟩, h4⟩
/-- what _are_blocks answers for a value -/
inductive BlkV (P : Program) (w : World) (H : Hp) (l : List (Str × V)) : V → Bool → Prop
  | no {x : V} {k : Kd} (h : Is H x k) (hk : isDctK k = false) : BlkV P w H l x false
  | dct {a : Addr} {kvs : List (Key × V)} {bs : List Bool} (h : H a = some (.dK kvs)) (hn : (kvs.map (·.1)).Nodup) (hl : kvs.length ≤ 100) (hb : bs.length = kvs.length)
      (he : ∀ (i : Nat) k v b, kvs[i]? = some (k, v) → bs[i]? = some b → EntV H l (some k) v b) : BlkV P w H l (.ref a) (bs.all id)
  | nk {a : Addr} {kvs : List (Option Key × V)} {bs : List Bool} (h : H a = some (nkO P w a kvs)) (hn : (kvs.map (·.1)).Nodup) (hl : kvs.length ≤ 100) (hb : bs.length = kvs.length)
      (he : ∀ (i : Nat) k v b, kvs[i]? = some (k, v) → bs[i]? = some b → EntV H l k v b) : BlkV P w H l (.ref a) (bs.all id)
def spAreBlocks (P : Program) (w : World) : Sp := fun vs H Q _ => ∃ (pa : Addr) (l : List (Str × V)) (x : V) (r : Bool), vs = [.ref pa, x] ∧ H pa = some (.dK (sk l)) ∧ x ≠ .ref pa ∧ BlkV P w H l x r ∧ ∀ H', Same H H' → Q (.bl r) H'
theorem ok_areBlocks {f fW fE : Addr} {fd fdW fdE : FuncData} (F : Fun K "_are_blocks" "_are_blocks" sAreBlocks f fd) (dW : D K mg "is_word" sIsWord ["thing"] fW fdW) (GW : FnOk P w K mg base CX0 2 fW fdW ["thing"] spIsWord)
    (dE : D K mg "_are_ends" sAreEnds ["partners", "ends"] fE fdE) (B : Bi mg) : FnOk P w K mg base CX0 3 f fd ["partners", "blocks"] (spAreBlocks P w) := by
  have GE : FnOk P w K mg base CX0 1 fE fdE ["partners", "ends"] spAreEnds := ok_areEnds dE.F B
  refine F.ok scAreBlocks (fun vs H Q E h => ?_) (fun cdv A outer s H vs Q E hr h => ?_)
  · obtain ⟨a, l, x, k, rfl, _⟩ := h
    rfl
  · obtain ⟨pa, l, x, r, rfl, hpa, hne, hB, q⟩ := h
    have hu := hu_of hr
    have hr1 : Room 1 _ := hr.mono (by decide)
    refine ⟨_, pss_cons (ps_if (pt_not (pt_val (pe_callB call_isiN (by rfl) B.isi boot_isinstance (pa_cons (pv 1) (pa_cons (pe_bltn (by rfl) B.dict boot_dict (v := .ty "dict") rfl) pa_nil))))) (pss_one (ps_ret pe_bl)) pss_nil)
      (pss_one (ps_ret (pe_callB (cr_all rfl) (by rfl) B.all boot_all (pa_cons
        (pe_lock (pe_lc (own := [("name", 2)]) (g := gName 2) (tt := tYes) rfl scAreBlocks.nd (pi_keysN (pv 1)) (blkOk_by (own := [("name", 2)]) (N := ["partners", "blocks", "name"]) (sc := defScope sAreBlocks) (by decide +kernel))
          (fun _ _ _ _ _ => pg_name (i := 2) scAreBlocks.nd rfl (Or.inl rfl)) (fun _ _ _ _ _ => pts_nil)
          (fun _ _ _ _ _ => pe_and (pe_call GW hr (by rfl) dW.m dW.F.kp dW.b .nil pass0 (pa_cons (pv 2) pa_nil)) (pe_one (pe_call GE hr1 (by rfl) dE.m dE.F.kp dE.b .nil pass0 (pa_cons (pv 0) (pa_cons
            (show PE _ _ (tDGetN P w _ _) from pe_dgetN hu (pv 1) (pv 2) (fun _ _ => rfl)) pa_nil))))))) pa_nil)))), ?_⟩
    cases hB with
    | no h hk =>
      refine ⟨_, rfl, .inl ⟨_, _, _, _, _, rfl, .ty "dict", h.ty, kit_dct _, ?_⟩⟩
      refine ⟨_, rfl, ?_⟩
      rw [hk]
      exact q H (Same.refl _)
    | @dct a kvs bs h hn hl hb he =>
      refine ⟨_, rfl, .inl ⟨_, _, _, _, _, rfl, .ty "dict", (Is.dct h).ty, kit_dct _, ?_⟩⟩
      refine ⟨_, rfl, ?_⟩
      show if (!true) = true then _ else _
      rw [if_neg (by decide)]
      refine ⟨a, _, h, True.intro, fun od => ⟨_, rfl, a, od, rfl, .inl ⟨kvs, upd_same, fun L nL => ?_⟩⟩⟩
      have nap : a ≠ pa := fun e => hne (by rw [e])
      have nLa : L ≠ a := fun e => by rw [e, upd_same] at nL; cases nL
      have nL0 : H L = none := by rw [upd_ne nLa] at nL; exact nL
      refine lc_keys (fun i H2 => H2 L = some (.lst ((bs.take i).map V.bl)) ∧ ∀ b o, b ≠ L → (upd H a (.frz od (.dK kvs))) b = some o → H2 b = some o) ⟨upd_same, fun b o n e => by rw [upd_ne n]; exact e⟩ (fun i H2 p => p.2 _ _ nLa.symm upd_same) ?_ ?_
      · rintro i k v H2 hkv ⟨e1, e2⟩
        have hi : i < kvs.length := (List.getElem?_eq_some_iff.mp hkv).1
        have hib : bs[i]? = some bs[i] := List.getElem?_eq_getElem (by omega)
        have hm := List.mem_of_getElem? hkv
        generalize bs[i] = b at hib
        have EV := he i _ v b hkv hib
        have s2 : Same (upd H a (.frz od (.dK kvs))) H2 := fun b o e => e2 b o (ne_of_none e nL) e
        obtain ⟨⟨kd, is1, ok1, len1, eb⟩, sz1⟩ := (EV.lock (o := .frz od (.dK kvs)) h (.inl ⟨_, rfl⟩)).same s2
        have fin : ∀ (H4 : Hp) (b' : Bool), Same H2 H4 → b' = b → ∃ acc, H4 L = some (.lst acc) ∧ acc.length < sizeLine ∧ ((upd H4 L (.lst (acc ++ [V.bl b']))) L = some (.lst ((bs.take (i + 1)).map V.bl)) ∧ ∀ c o, c ≠ L → (upd H a (.frz od (.dK kvs))) c = some o → (upd H4 L (.lst (acc ++ [V.bl b']))) c = some o) := fun H4 b' s4 ebb => by
          refine ⟨_, s4 _ _ e1, ?_, ?_, fun c o n e => ?_⟩
          · rw [List.length_map, List.length_take]
            exact small1000 (by omega)
          · rw [upd_same, List.take_add_one, hib, List.map_append, ebb]
            rfl
          · rw [upd_ne n]
            exact s4 _ _ (e2 c o n e)
        refine ⟨rfl, _, rfl, _, keyK (some k), rfl, key_is (some k), fun z ez => ?_, fun H3 s3 => ⟨_, rfl, ?_⟩⟩
        · exact sz1 z (keyK_str ez)
        · cases hw : wordK (keyK (some k)) with
          | false =>
            refine fin H3 _ s3 ?_
            rw [eb]; unfold bEnt; rw [hw]; rfl
          | true =>
            refine ⟨_, rfl, _, rfl, _, rfl, a, v, rfl, .inl (.inl ⟨kvs, k, .inr ⟨od, s3 _ _ (e2 _ _ nLa.symm upd_same)⟩, rfl, (val_nodup hn (k, v) hm).symm⟩), ?_⟩
            refine ⟨pa, l, v, kd, rfl, s3 _ _ (e2 _ _ (ne_of_none hpa nL0) (by rw [upd_ne nap.symm]; exact hpa)), is1.same s3, ok1, len1, fun H4 s4 => ?_⟩
            refine fin H4 _ (s3.trans s4) ?_
            rw [eb]; unfold bEnt; rw [hw]; rfl
      · rintro H2 ⟨e1, e2⟩
        refine ⟨e2 _ _ nLa.symm upd_same, L, _, rfl, SqL.of (by rw [upd_ne nLa]; exact e1), ?_⟩
        have s2 : Same (upd H a (.frz od (.dK kvs))) H2 := fun b o e => e2 b o (ne_of_none e nL) e
        rw [← hb, List.take_length]
        exact q _ (Same.lock h s2)
    | @nk a kvs bs h hn hl hb he =>
      refine ⟨_, rfl, .inr ⟨a, kvs, rfl, h, ?_⟩⟩
      refine ⟨_, rfl, ?_⟩
      show if (!true) = true then _ else _
      rw [if_neg (by decide)]
      refine ⟨a, _, h, True.intro, fun od => ⟨_, rfl, a, od, rfl, .inr ⟨kvs, upd_same, fun L nL => ?_⟩⟩⟩
      have nap : a ≠ pa := fun e => hne (by rw [e])
      have nLa : L ≠ a := fun e => by rw [e, upd_same] at nL; cases nL
      have nL0 : H L = none := by rw [upd_ne nLa] at nL; exact nL
      refine lc_keysN (fun i H2 => H2 L = some (.lst ((bs.take i).map V.bl)) ∧ ∀ b o, b ≠ L → (upd H a (.frz od (nkO P w a kvs))) b = some o → H2 b = some o) ⟨upd_same, fun b o n e => by rw [upd_ne n]; exact e⟩ (fun i H2 p => p.2 _ _ nLa.symm upd_same) ?_ ?_
      · rintro i k v H2 hkv ⟨e1, e2⟩
        have hi : i < kvs.length := (List.getElem?_eq_some_iff.mp hkv).1
        have hib : bs[i]? = some bs[i] := List.getElem?_eq_getElem (by omega)
        have hm := List.mem_of_getElem? hkv
        generalize bs[i] = b at hib
        have EV := he i _ v b hkv hib
        have s2 : Same (upd H a (.frz od (nkO P w a kvs))) H2 := fun b o e => e2 b o (ne_of_none e nL) e
        obtain ⟨⟨kd, is1, ok1, len1, eb⟩, sz1⟩ := (EV.lock (o := .frz od (nkO P w a kvs)) h (.inr ⟨_, rfl⟩)).same s2
        have fin : ∀ (H4 : Hp) (b' : Bool), Same H2 H4 → b' = b → ∃ acc, H4 L = some (.lst acc) ∧ acc.length < sizeLine ∧ ((upd H4 L (.lst (acc ++ [V.bl b']))) L = some (.lst ((bs.take (i + 1)).map V.bl)) ∧ ∀ c o, c ≠ L → (upd H a (.frz od (nkO P w a kvs))) c = some o → (upd H4 L (.lst (acc ++ [V.bl b']))) c = some o) := fun H4 b' s4 ebb => by
          refine ⟨_, s4 _ _ e1, ?_, ?_, fun c o n e => ?_⟩
          · rw [List.length_map, List.length_take]
            exact small1000 (by omega)
          · rw [upd_same, List.take_add_one, hib, List.map_append, ebb]
            rfl
          · rw [upd_ne n]
            exact s4 _ _ (e2 c o n e)
        refine ⟨rfl, _, rfl, _, keyK k, rfl, key_is k, fun z ez => ?_, fun H3 s3 => ⟨_, rfl, ?_⟩⟩
        · exact sz1 z (keyK_str ez)
        · cases hw : wordK (keyK k) with
          | false =>
            refine fin H3 _ s3 ?_
            rw [eb]; unfold bEnt; rw [hw]; rfl
          | true =>
            obtain ⟨k', rfl⟩ : ∃ k', k = some k' := by
              cases k with
              | none => cases hw
              | some k' => exact ⟨k', rfl⟩
            refine ⟨_, rfl, _, rfl, _, rfl, a, v, rfl, .inr ⟨kvs, k', .inr ⟨od, s3 _ _ (e2 _ _ nLa.symm upd_same)⟩, rfl, val_nodup hn (some k', v) hm⟩, ?_⟩
            refine ⟨pa, l, v, kd, rfl, s3 _ _ (e2 _ _ (ne_of_none hpa nL0) (by rw [upd_ne nap.symm]; exact hpa)), is1.same s3, ok1, len1, fun H4 s4 => ?_⟩
            refine fin H4 _ (s3.trans s4) ?_
            rw [eb]; unfold bEnt; rw [hw]; rfl
      · rintro H2 ⟨e1, e2⟩
        refine ⟨e2 _ _ nLa.symm upd_same, L, _, rfl, SqL.of (by rw [upd_ne nLa]; exact e1), ?_⟩
        have s2 : Same (upd H a (.frz od (nkO P w a kvs))) H2 := fun b o e => e2 b o (ne_of_none e nL) e
        rw [← hb, List.take_length]
        exact q _ (Same.lock h s2)
end
end K1

set_option Elab.async false
set_option linter.all false
set_option maxRecDepth 100000
set_option maxHeartbeats 1000000
namespace K1
open PySem PySem.Spec PyProof.Rows L2
abbrev cSheet : Stmt := topS 17
abbrev sInit : Stmt := inClass cSheet 0
theorem scInit : FnScope ["self", "partners", "blocks", "kind", "name"] ["self", "partners", "blocks"] (defScope sInit) := ⟨rfl, rfl, rfl, by decide +kernel, rfl, by decide +kernel, by decide +kernel⟩
/-- a dict with the same entries, by ascending keys -/
structure SD (l l' : List (Str × V)) : Prop where
  perm : (l'.map (·.1)).Perm (l.map (·.1))
  sorted : sortedS (l'.map (·.1)) = true
  val : ∀ p ∈ l', look l p.1 = some p.2
theorem n12 : ¬ (("_partners" : Str) = "_blocks") := by decide +kernel
theorem n13 : ¬ (("_partners" : Str) = "_names") := by decide +kernel
theorem n23 : ¬ (("_blocks" : Str) = "_names") := by decide +kernel
def flds (pp bp np : Addr) : List (Str × V) := putF "_names" (.ref np) (putF "_blocks" (.ref bp) (putF "_partners" (.ref pp) []))
theorem flds_p (pp bp np : Addr) : (flds pp bp np).lookup ("_partners" : Str) = some (.ref pp) := by
  unfold flds
  rw [lookup_putF, if_neg n13, lookup_putF, if_neg n12, lookup_putF, if_pos rfl]
theorem flds_b (pp bp np : Addr) : (flds pp bp np).lookup ("_blocks" : Str) = some (.ref bp) := by
  unfold flds
  rw [lookup_putF, if_neg n23, lookup_putF, if_pos rfl]
theorem flds_n (pp bp np : Addr) : (flds pp bp np).lookup ("_names" : Str) = some (.ref np) := by
  unfold flds
  rw [lookup_putF, if_pos rfl]
theorem flds_no (pp bp np : Addr) {m : Str} (h1 : ¬ m = "_partners") (h2 : ¬ m = "_blocks") (h3 : ¬ m = "_names") : (flds pp bp np).lookup m = none := by
  unfold flds
  rw [lookup_putF, if_neg h3, lookup_putF, if_neg h2, lookup_putF, if_neg h1]
  rfl
/-- a sheet at p -/
structure SheetAt (C : Addr) (H : Hp) (p pp bp np : Addr) (l b : List (Str × V)) : Prop where
  ob : ∃ dx, H p = some (.ins C dx (flds pp bp np))
  pt : ∃ l', H pp = some (.dK (sk l')) ∧ SD l l'
  bt : ∃ b', H bp = some (.dK (sk b')) ∧ SD b b' ∧ H np = some (.lst ((b'.map (·.1)).map V.str))
theorem SheetAt.same {C : Addr} {H H' : Hp} {p pp bp np : Addr} {l b : List (Str × V)} (h : SheetAt C H p pp bp np l b) (e : Same H H') : SheetAt C H' p pp bp np l b := by
  obtain ⟨⟨dx, h1⟩, ⟨l', h2, h3⟩, ⟨b', h4, h5, h6⟩⟩ := h
  exact ⟨⟨dx, e _ _ h1⟩, ⟨l', e _ _ h2, h3⟩, ⟨b', e _ _ h4, h5, e _ _ h6⟩⟩
/-- an error class of the package -/
structure ErrC (K : PySem.W.Frag) (mg : Str → Option Value) (x : Str) (C : Addr) : Prop where
  g : mg x = some (.ref C)
  xc : PySem.W.excIn K C [.type "ValueError", .type "Exception", .type "BaseException", .type "object"] "ValueError.__new__" = true
  k : PySem.W.keepIn K (.ref C) = true
  b : PySem.W.subIn K (.ref C) (.type "BaseException") = some true
  t : PySem.W.typeIn K (.ref C) = some (.type "type")
/-- the class of the sheets, as the top has made it -/
structure ClsS (K : PySem.W.Frag) (mg : Str → Option Value) (C : Addr) : Prop where
  cl : Cls K C
  nP : NoAttr K C "_partners"
  nB : NoAttr K C "_blocks"
  nN : NoAttr K C "_names"
  g : mg "Sheet" = some (.ref C)
theorem sk_keys (l : List (Str × V)) : (sk l).map (·.1) = (l.map (·.1)).map Sum.inr := by
  unfold sk
  rw [List.map_map, List.map_map]
  rfl
theorem PartV.same {H H' : Hp} {x : V} {r : Bool} (h : PartV H x r) (e : Same H H') : PartV H' x r := by
  cases h with
  | no h hk => exact .no (h.same e) hk
  | dct h hl hk hv =>
    refine .dct (e _ _ h) hl hk fun p hp => ?_
    obtain ⟨k, h1, h2⟩ := hv p hp
    exact ⟨k, h1.same e, h2⟩
theorem BlkV.same {P : Program} {w : World} {H H' : Hp} {l : List (Str × V)} {x : V} {r : Bool} (h : BlkV P w H l x r) (e : Same H H') : BlkV P w H' l x r := by
  cases h with
  | no h hk => exact .no (h.same e) hk
  | dct h hn hl hb he => exact .dct (e _ _ h) hn hl hb fun i k v b h1 h2 => (he i k v b h1 h2).same e
  | nk h hn hl hb he => exact .nk (e _ _ h) hn hl hb fun i k v b h1 h2 => (he i k v b h1 h2).same e
/-- the entries for some keys -/
def ents (l : List (Str × V)) (ys : List Str) : List (Str × V) := ys.map fun k => (k, (look l k).getD .non)
theorem ents_keys (l : List (Str × V)) (ys : List Str) : (ents l ys).map (·.1) = ys := by
  unfold ents
  rw [List.map_map]
  exact List.map_id ys
theorem ents_sd {l : List (Str × V)} {ys : List Str} (hn : (l.map (·.1)).Nodup) (hp : ys.Perm (l.map (·.1))) (hs : sortedS ys = true) : SD l (ents l ys) := by
  refine ⟨by rw [ents_keys]; exact hp, by rw [ents_keys]; exact hs, fun p h => ?_⟩
  obtain ⟨k, hk, rfl⟩ := List.mem_map.mp h
  obtain ⟨q, hq, e⟩ := List.mem_map.mp (hp.mem_iff.mp hk)
  have e2 := look_some hn hq
  rw [e] at e2
  show look l k = some ((look l k).getD .non)
  rw [e2]
  rfl
theorem look_of {l : List (Str × V)} {ys : List Str} (hn : (l.map (·.1)).Nodup) (hp : ys.Perm (l.map (·.1))) {k : Str} (hk : k ∈ ys) : look l k = some ((look l k).getD .non) := by
  obtain ⟨q, hq, e⟩ := List.mem_map.mp (hp.mem_iff.mp hk)
  have e2 := look_some hn hq
  rw [e] at e2
  rw [e2]
  rfl
theorem ents_put {l : List (Str × V)} {ys : List Str} {i : Nat} {y : Str} (hn : ys.Nodup) (h : ys[i]? = some y) : putK (sk (ents l (ys.take i))) (Sum.inr y) ((look l y).getD .non) = sk (ents l (ys.take (i + 1))) := by
  have e : putK (sk (ents l (ys.take i))) (Sum.inr y) ((look l y).getD .non) = sk (ents l (ys.take i) ++ [(y, (look l y).getD .non)]) :=
    put_map (fun v : V => v) ((look l y).getD .non) (by rw [ents_keys]; exact nd_take hn h)
  rw [e, List.take_add_one, h]
  unfold ents
  rw [List.map_append]
  rfl
section
variable {P : Program} {w : World} {K : PySem.W.Frag} {mg : Str → Option Value} {base : Heap}
def spInit (P : Program) (w : World) (C CB : Addr) : Sp := fun vs H Q E => ∃ (p dx : Addr) (x y : V) (r1 : Bool), vs = [.ref p, x, y] ∧ H p = some (.ins C dx []) ∧ PartV H x r1 ∧
  ((r1 = false ∧ ∀ H', Same H H' → E (.ref CB) none H') ∨
   (r1 = true ∧ ∃ (pa : Addr) (l : List (Str × V)) (r2 : Bool), x = .ref pa ∧ H pa = some (.dK (sk l)) ∧ y ≠ .ref pa ∧ BlkV P w H l y r2 ∧
     ((r2 = false ∧ ∀ H', Same H H' → E (.ref CB) none H') ∨
      (r2 = true ∧ ∃ (ba : Addr) (b : List (Str × V)), y = .ref ba ∧ H ba = some (.dK (sk b)) ∧ l.length < 64 ∧ (l.map (·.1)).Nodup ∧ b.length < 64 ∧ (b.map (·.1)).Nodup ∧
        ∀ (pp bp np : Addr) (H' : Hp), H pp = none → H bp = none → H np = none → SheetAt C H' p pp bp np l b → (∀ c o, c ≠ p → H c = some o → H' c = some o) → Q .non H'))))
theorem ok_init {f C CB fP fB : Addr} {fd fdP fdB : FuncData} (F : Fun K "__init__" "Sheet.__init__" sInit f fd) (dP : D K mg "_are_partners" sArePart ["partners"] fP fdP) (GP : FnOk P w K mg base CX0 3 fP fdP ["partners"] spArePart)
    (dB : D K mg "_are_blocks" sAreBlocks ["partners", "blocks"] fB fdB) (GB : FnOk P w K mg base CX0 3 fB fdB ["partners", "blocks"] (spAreBlocks P w)) (B : Bi mg) (S : ClsS K mg C) (X : ErrC K mg "BadSheet" CB) :
    FnOk P w K mg base (L2.CX P w) 4 f fd ["self", "partners", "blocks"] (spInit P w C CB) := by
  refine F.okX scInit (fun vs H Q E h => ?_) (fun cdv A outer s H vs Q E hr h => ?_)
  · obtain ⟨p, dx, x, y, r1, rfl, _⟩ := h
    rfl
  · obtain ⟨p, dx, x, y, r1, rfl, hp, hP, h⟩ := h
    have hu := hu_of hr
    refine ⟨_, pss_cons (ps_if (pt_not (pt_val (pe_call GP hr (by rfl) dP.m dP.F.kp dP.b .nil pass0 (pa_cons (pv 1) pa_nil))))
        (pss_one (ps_raise rfl (takes_of rfl rfl rfl rfl) (pmk_own PySem.F.excBase_ValueError X.xc X.g X.k (raises_own X.b X.t) rfl))) pss_nil)
      (pss_cons (ps_if (pt_not (pt_val (pe_call GB hr (by rfl) dB.m dB.F.kp dB.b .nil pass0 (pa_cons (pv 1) (pa_cons (pv 2) pa_nil)))))
        (pss_one (ps_raise rfl (takes_of rfl rfl rfl rfl) (pmk_own PySem.F.excBase_ValueError X.xc X.g X.k (raises_own X.b X.t) rfl))) pss_nil)
      (pss_cons (ps_fld (pv 0) (pe_dc (own := [("kind", 3)]) (g := gName 3) (tt := tYes) rfl scInit.nd (pi_list (pe_callB (call_sortedD rfl) (by rfl) B.sorted boot_sorted (pa_cons (pv 1) pa_nil)))
          (blkOk_by (own := [("kind", 3)]) (N := ["self", "partners", "blocks", "kind", "name"]) (sc := defScope sInit) (by decide +kernel))
          (fun _ _ _ _ _ => pg_name (i := 3) scInit.nd rfl (Or.inl rfl)) (fun _ _ _ _ _ => pts_nil) (fun _ _ _ _ _ => pv 3) (fun _ _ _ _ _ => pe_dget hu (pv 1) (pv 3) (fun _ _ => rfl))) rfl)
      (pss_cons (ps_fld (pv 0) (pe_dc (own := [("name", 4)]) (g := gName 4) (tt := tYes) rfl scInit.nd (pi_list (pe_callB (call_sortedD rfl) (by rfl) B.sorted boot_sorted (pa_cons (pv 2) pa_nil)))
          (blkOk_by (own := [("name", 4)]) (N := ["self", "partners", "blocks", "kind", "name"]) (sc := defScope sInit) (by decide +kernel))
          (fun _ _ _ _ _ => pg_name (i := 4) scInit.nd rfl (Or.inl rfl)) (fun _ _ _ _ _ => pts_nil) (fun _ _ _ _ _ => pv 4) (fun _ _ _ _ _ => pe_dget hu (pv 2) (pv 4) (fun _ _ => rfl))) rfl)
      (pss_one (ps_fld (pv 0) (pe_callB (call_sortedD rfl) (by rfl) B.sorted boot_sorted (pa_cons (pv 2) pa_nil)) rfl))))), ?_⟩
    refine ⟨_, rfl, x, r1, rfl, hP, fun H1 s1 => ⟨_, rfl, ?_⟩⟩
    rcases h with ⟨rfl, he⟩ | ⟨rfl, pa, l, r2, rfl, hpa, hne, hB, h⟩
    · show if (!false) = true then _ else _
      rw [if_pos (by decide)]
      exact he H1 s1
    · show if (!true) = true then _ else _
      rw [if_neg (by decide)]
      refine ⟨_, rfl, _, rfl, pa, l, y, r2, rfl, s1 _ _ hpa, hne, hB.same s1, fun H2 s2 => ⟨_, rfl, ?_⟩⟩
      have s12 := s1.trans s2
      rcases h with ⟨rfl, he⟩ | ⟨rfl, ba, b, rfl, hba, ll, ln, bl, bn, q⟩
      · show if (!false) = true then _ else _
        rw [if_pos (by decide)]
        exact he H2 s12
      show if (!true) = true then _ else _
      rw [if_neg (by decide)]
      have hp2 := s12 _ _ hp
      have hpa2 := s12 _ _ hpa
      have hba2 := s12 _ _ hba
      have npa : p ≠ pa := ne_of hp hpa (by intro z; cases z)
      have npb : p ≠ ba := ne_of hp hba (by intro z; cases z)
      -- self._partners = {..}
      refine ⟨_, rfl, pa, sk l, l.map (·.1), rfl, .inl hpa2, sk_keys l, by rw [List.length_map]; exact ll, fun ys sp perm srt nsp => ⟨sp, rfl, ⟨_, SqL.of upd_same⟩, fun D nD => ?_⟩⟩
      have nDs : D ≠ sp := fun e => by rw [e, upd_same] at nD; cases nD
      have nD0 : H2 D = none := by rw [upd_ne nDs] at nD; exact nD
      have hpa3 : ∀ o, (upd (upd H2 sp (.lst (ys.map V.str))) D o) pa = some (.dK (sk l)) := fun o => by rw [upd_ne (ne_of_none hpa2 nD0), upd_ne (ne_of_none hpa2 nsp)]; exact hpa2
      refine dc_list (K := K) (a := sp) (xs := ys.map V.str) (fun i H3 => H3 = upd (upd H2 sp (.lst (ys.map V.str))) D (.dK (sk (ents l (ys.take i))))) rfl (fun i H3 _ e => by rw [e]; exact SqL.of (by rw [upd_ne nDs.symm, upd_same])) ?_ ?_
      · rintro i x Hx hx rfl
        rw [List.getElem?_map] at hx
        cases hj : ys[i]? with
        | none => rw [hj] at hx; cases hx
        | some y =>
          rw [hj] at hx
          have ex : x = V.str y := (Option.some.inj hx).symm
          subst ex
          have hi : i < ys.length := (List.getElem?_eq_some_iff.mp hj).1
          refine ⟨rfl, _, rfl, _, rfl, _, rfl, pa, _, rfl, .inl ⟨_, Sum.inr y, .inl (hpa3 _), rfl, by rw [sk_val]; exact (look_of ln perm (List.mem_of_getElem? hj)).symm⟩, ?_⟩
          refine ⟨_, Sum.inr y, rfl, upd_same, ?_, ?_⟩
          · unfold sk ents
            rw [List.length_map, List.length_map, List.length_take]
            have := perm.length_eq
            rw [List.length_map] at this
            exact small1000 (by omega)
          · rw [upd_upd, ents_put (perm.nodup_iff.mpr ln) hj]
      rintro H3 rfl
      rw [List.length_map, List.take_length]
      have s3 : Same H2 (upd (upd H2 sp (.lst (ys.map V.str))) D (.dK (sk (ents l ys)))) := (same_upd nsp).trans (same_upd nD)
      have hD3 : (upd (upd H2 sp (.lst (ys.map V.str))) D (.dK (sk (ents l ys)))) D = some (.dK (sk (ents l ys))) := upd_same
      generalize (upd (upd H2 sp (.lst (ys.map V.str))) D (.dK (sk (ents l ys)))) = H3 at s3 hD3
      refine ⟨_, rfl, p, C, dx, [], rfl, s3 _ _ hp2, S.cl, S.nP, (by show 0 < 1000; decide), ?_⟩
      have npD : p ≠ D := ne_of (s3 _ _ hp2) hD3 (by intro z; cases z)
      -- self._blocks = {..}
      have k4 : ∀ c o, c ≠ p → H c = some o → (upd H3 p (.ins C dx (putF "_partners" (.ref D) []))) c = some o := fun c o n e => by rw [upd_ne n]; exact s3 _ _ (s12 _ _ e)
      have hD4 : (upd H3 p (.ins C dx (putF "_partners" (.ref D) []))) D = some (.dK (sk (ents l ys))) := by rw [upd_ne npD.symm]; exact hD3
      have hp4 : (upd H3 p (.ins C dx (putF "_partners" (.ref D) []))) p = some (.ins C dx (putF "_partners" (.ref D) [])) := upd_same
      show tSeq _ _ _ _ (upd H3 p (.ins C dx (putF "_partners" (.ref D) [])))
      generalize (upd H3 p (.ins C dx (putF "_partners" (.ref D) []))) = H4 at k4 hD4 hp4
      have hba4 := k4 _ _ npb.symm hba
      refine ⟨_, rfl, ba, sk b, b.map (·.1), rfl, .inl hba4, sk_keys b, by rw [List.length_map]; exact bl, fun zs sq perm2 srt2 nsq => ⟨sq, rfl, ⟨_, SqL.of upd_same⟩, fun G nG => ?_⟩⟩
      have nGs : G ≠ sq := fun e => by rw [e, upd_same] at nG; cases nG
      have nG0 : H4 G = none := by rw [upd_ne nGs] at nG; exact nG
      have hba5 : ∀ o, (upd (upd H4 sq (.lst (zs.map V.str))) G o) ba = some (.dK (sk b)) := fun o => by rw [upd_ne (ne_of_none hba4 nG0), upd_ne (ne_of_none hba4 nsq)]; exact hba4
      refine dc_list (K := K) (a := sq) (xs := zs.map V.str) (fun i H5 => H5 = upd (upd H4 sq (.lst (zs.map V.str))) G (.dK (sk (ents b (zs.take i))))) rfl (fun i H5 _ e => by rw [e]; exact SqL.of (by rw [upd_ne nGs.symm, upd_same])) ?_ ?_
      · rintro i x Hx hx rfl
        rw [List.getElem?_map] at hx
        cases hj : zs[i]? with
        | none => rw [hj] at hx; cases hx
        | some y =>
          rw [hj] at hx
          have ex : x = V.str y := (Option.some.inj hx).symm
          subst ex
          have hi : i < zs.length := (List.getElem?_eq_some_iff.mp hj).1
          refine ⟨rfl, _, rfl, _, rfl, _, rfl, ba, _, rfl, .inl ⟨_, Sum.inr y, .inl (hba5 _), rfl, by rw [sk_val]; exact (look_of bn perm2 (List.mem_of_getElem? hj)).symm⟩, ?_⟩
          refine ⟨_, Sum.inr y, rfl, upd_same, ?_, ?_⟩
          · unfold sk ents
            rw [List.length_map, List.length_map, List.length_take]
            have := perm2.length_eq
            rw [List.length_map] at this
            exact small1000 (by omega)
          · rw [upd_upd, ents_put (perm2.nodup_iff.mpr bn) hj]
      rintro H5 rfl
      rw [List.length_map, List.take_length]
      have s5 : Same H4 (upd (upd H4 sq (.lst (zs.map V.str))) G (.dK (sk (ents b zs)))) := (same_upd nsq).trans (same_upd nG)
      have hG5 : (upd (upd H4 sq (.lst (zs.map V.str))) G (.dK (sk (ents b zs)))) G = some (.dK (sk (ents b zs))) := upd_same
      generalize (upd (upd H4 sq (.lst (zs.map V.str))) G (.dK (sk (ents b zs)))) = H5 at s5 hG5
      have hp5 := s5 _ _ hp4
      refine ⟨_, rfl, p, C, dx, _, rfl, hp5, S.cl, S.nB, (by show 1 < 1000; decide), ?_⟩
      have npG : p ≠ G := ne_of hp5 hG5 (by intro z; cases z)
      have k6 : ∀ c o, c ≠ p → H4 c = some o → (upd H5 p (.ins C dx (putF "_blocks" (.ref G) (putF "_partners" (.ref D) [])))) c = some o := fun c o n e => by rw [upd_ne n]; exact s5 _ _ e
      have hG6 : (upd H5 p (.ins C dx (putF "_blocks" (.ref G) (putF "_partners" (.ref D) [])))) G = some (.dK (sk (ents b zs))) := by rw [upd_ne npG.symm]; exact hG5
      have hp6 : (upd H5 p (.ins C dx (putF "_blocks" (.ref G) (putF "_partners" (.ref D) [])))) p = some (.ins C dx (putF "_blocks" (.ref G) (putF "_partners" (.ref D) []))) := upd_same
      generalize (upd H5 p (.ins C dx (putF "_blocks" (.ref G) (putF "_partners" (.ref D) [])))) = H6 at k6 hG6 hp6
      have hba6 := k6 _ _ npb.symm hba4
      have hD6 := k6 _ _ npD.symm hD4
      -- self._names = sorted(blocks)
      refine ⟨_, rfl, ba, sk b, b.map (·.1), rfl, .inl hba6, sk_keys b, by rw [List.length_map]; exact bl, fun ws np perm3 srt3 nnp => ?_⟩
      refine ⟨_, rfl, p, C, dx, _, rfl, (same_upd nnp) _ _ hp6, S.cl, S.nN, (by show 2 < 1000; decide), ?_⟩
      have npn : p ≠ np := ne_of_none hp6 nnp
      have nDn : D ≠ np := ne_of_none hD6 nnp
      have nGn : G ≠ np := ne_of_none hG6 nnp
      have ew : ws = zs := sorted_one srt3 srt2 (perm3.trans perm2.symm)
      subst ew
      refine q D G np _ ?_ ?_ ?_ ⟨⟨dx, upd_same⟩, ⟨_, ?_, ents_sd ln perm srt⟩, ⟨_, ?_, ents_sd bn perm3 srt3, ?_⟩⟩ fun c o n e => ?_
      · exact s12.free nD0
      · cases q2 : H G with
        | none => rfl
        | some o =>
          have ngp : G ≠ p := npG.symm
          rw [k4 _ _ ngp q2] at nG0
          cases nG0
      · cases q2 : H np with
        | none => rfl
        | some o =>
          rw [k6 _ _ npn.symm (k4 _ _ npn.symm q2)] at nnp
          cases nnp
      · rw [upd_ne npD.symm, upd_ne nDn]; exact hD6
      · rw [upd_ne npG.symm, upd_ne nGn]; exact hG6
      · rw [upd_ne npn.symm, upd_same, ents_keys]
      · rw [upd_ne n, upd_ne (ne_of_none (k6 _ _ n (k4 _ _ n e)) nnp)]
        exact k6 _ _ n (k4 _ _ n e)
end
end K1

set_option Elab.async false
set_option linter.all false
set_option maxRecDepth 100000
set_option maxHeartbeats 1000000
namespace K1
open PySem PySem.Spec PyProof.Rows L2
abbrev sKinds : Stmt := inClass cSheet 1
abbrev sNames : Stmt := inClass cSheet 2
abbrev sJoints : Stmt := inClass cSheet 3
abbrev sPartner : Stmt := inClass cSheet 4
abbrev sJoint : Stmt := inClass cSheet 5
abbrev sEnds : Stmt := inClass cSheet 6
abbrev sLen : Stmt := inClass cSheet 7
abbrev sCont : Stmt := inClass cSheet 8
abbrev sIter : Stmt := inClass cSheet 9
abbrev sEq : Stmt := inClass cSheet 10
theorem scKinds : FnScope ["self"] ["self"] (defScope sKinds) := ⟨rfl, rfl, rfl, by decide +kernel, rfl, by decide +kernel, by decide +kernel⟩
theorem scNames : FnScope ["self"] ["self"] (defScope sNames) := ⟨rfl, rfl, rfl, by decide +kernel, rfl, by decide +kernel, by decide +kernel⟩
theorem scJoints : FnScope ["self", "kind", "other"] ["self"] (defScope sJoints) := ⟨rfl, rfl, rfl, by decide +kernel, rfl, by decide +kernel, by decide +kernel⟩
theorem scPartner : FnScope ["self", "kind"] ["self", "kind"] (defScope sPartner) := ⟨rfl, rfl, rfl, by decide +kernel, rfl, by decide +kernel, by decide +kernel⟩
theorem scJoint : FnScope ["self", "kind"] ["self", "kind"] (defScope sJoint) := ⟨rfl, rfl, rfl, by decide +kernel, rfl, by decide +kernel, by decide +kernel⟩
theorem scEnds : FnScope ["self", "name"] ["self", "name"] (defScope sEnds) := ⟨rfl, rfl, rfl, by decide +kernel, rfl, by decide +kernel, by decide +kernel⟩
theorem scLen : FnScope ["self"] ["self"] (defScope sLen) := ⟨rfl, rfl, rfl, by decide +kernel, rfl, by decide +kernel, by decide +kernel⟩
theorem scCont : FnScope ["self", "name"] ["self", "name"] (defScope sCont) := ⟨rfl, rfl, rfl, by decide +kernel, rfl, by decide +kernel, by decide +kernel⟩
theorem scIter : FnScope ["self"] ["self"] (defScope sIter) := ⟨rfl, rfl, rfl, by decide +kernel, rfl, by decide +kernel, by decide +kernel⟩
theorem scEq : FnScope ["self", "other"] ["self", "other"] (defScope sEq) := ⟨rfl, rfl, rfl, by decide +kernel, rfl, by decide +kernel, by decide +kernel⟩
theorem SD.look {l l' : List (Str × V)} (h : SD l l') (hn : (l.map (·.1)).Nodup) (a : Str) : look l' a = K1.look l a := by
  have hn' : (l'.map (·.1)).Nodup := h.perm.nodup_iff.mpr hn
  by_cases hm : a ∈ l'.map (·.1)
  · obtain ⟨p, hp, e⟩ := List.mem_map.mp hm
    have e1 := look_some hn' hp
    have e2 := h.val p hp
    rw [e] at e1 e2
    rw [e1, e2]
  · rw [look_none hm, look_none fun q => hm (h.perm.mem_iff.mpr q)]
theorem SD.len {l l' : List (Str × V)} (h : SD l l') : l'.length = l.length := by
  have := h.perm.length_eq
  rw [List.length_map, List.length_map] at this
  exact this
section
variable {P : Program} {w : World} {K : PySem.W.Frag} {mg : Str → Option Value} {base : Heap}
def spKinds (C : Addr) : Sp := fun vs H Q _ => ∃ (p pp bp np : Addr) (l b : List (Str × V)), vs = [.ref p] ∧ SheetAt C H p pp bp np l b ∧ ∀ (L : Addr) (ks : List Str), ks.Perm (l.map (·.1)) → sortedS ks = true → H L = none → Q (.ref L) (upd H L (.lst (ks.map V.str)))
theorem ok_kinds {f C : Addr} {fd : FuncData} (F : Fun K "kinds" "Sheet.kinds" sKinds f fd) (B : Bi mg) (S : ClsS K mg C) : FnOk P w K mg base CX0 1 f fd ["self"] (spKinds C) := by
  refine F.ok scKinds (fun vs H Q E h => ?_) (fun cdv A outer s H vs Q E hr h => ?_)
  · obtain ⟨p, pp, bp, np, l, b, rfl, _⟩ := h
    rfl
  · obtain ⟨p, pp, bp, np, l, b, rfl, ⟨⟨dx, h1⟩, ⟨l', h2, h3⟩, _⟩, q⟩ := h
    refine ⟨_, pss_one (ps_ret (pe_callTy (call_listD rfl) (by rfl) B.list boot_list (pa_cons (pe_fld (pv 0) rfl) pa_nil))), ?_⟩
    refine ⟨_, rfl, p, C, dx, _, _, rfl, h1, S.cl, S.nP, flds_p _ _ _, pp, _, rfl, .inl h2, fun L nL => ?_⟩
    have e : (sk l').map (fun kv => kV kv.1) = (l'.map (·.1)).map V.str := by
      unfold sk; rw [List.map_map, List.map_map]; rfl
    rw [e]
    exact q L _ h3.perm h3.sorted nL
def spNames (C : Addr) : Sp := fun vs H Q _ => ∃ (p pp bp np : Addr) (l b : List (Str × V)), vs = [.ref p] ∧ SheetAt C H p pp bp np l b ∧ ∀ (L : Addr) (ks : List Str), ks.Perm (b.map (·.1)) → sortedS ks = true → H L = none → Q (.ref L) (upd H L (.lst (ks.map V.str)))
def spLen (C : Addr) : Sp := fun vs H Q _ => ∃ (p pp bp np : Addr) (l b : List (Str × V)), vs = [.ref p] ∧ SheetAt C H p pp bp np l b ∧ Q (.int b.length) H
theorem ok_len {f C : Addr} {fd : FuncData} (F : Fun K "__len__" "Sheet.__len__" sLen f fd) (B : Bi mg) (S : ClsS K mg C) : FnOk P w K mg base CX0 1 f fd ["self"] (spLen C) := by
  refine F.ok scLen (fun vs H Q E h => ?_) (fun cdv A outer s H vs Q E hr h => ?_)
  · obtain ⟨p, pp, bp, np, l, b, rfl, _⟩ := h
    rfl
  · obtain ⟨p, pp, bp, np, l, b, rfl, ⟨⟨dx, h1⟩, _, ⟨b', h4, h5, h6⟩⟩, q⟩ := h
    refine ⟨_, pss_one (ps_ret (pe_callB call_len_seq (by rfl) B.len PySem.boot_len (pa_cons (pe_fld (pv 0) rfl) pa_nil))), ?_⟩
    refine ⟨_, rfl, p, C, dx, _, _, rfl, h1, S.cl, S.nN, flds_n _ _ _, np, _, rfl, .inl (SqL.of h6), ?_⟩
    have e : ((b'.map (·.1)).map V.str).length = b.length := by rw [List.length_map, List.length_map, h5.len]
    rw [e]
    exact q
def spIter (C : Addr) : Sp := fun vs H Q _ => ∃ (p pp bp np : Addr) (l b : List (Str × V)), vs = [.ref p] ∧ SheetAt C H p pp bp np l b ∧ ∀ (it : Addr), H it = none → Q (.ref it) (upd H it (ItO np it 0))
theorem ok_iter {f C : Addr} {fd : FuncData} (F : Fun K "__iter__" "Sheet.__iter__" sIter f fd) (B : Bi mg) (S : ClsS K mg C) : FnOk P w K mg base CX0 1 f fd ["self"] (spIter C) := by
  refine F.ok scIter (fun vs H Q E h => ?_) (fun cdv A outer s H vs Q E hr h => ?_)
  · obtain ⟨p, pp, bp, np, l, b, rfl, _⟩ := h
    rfl
  · obtain ⟨p, pp, bp, np, l, b, rfl, ⟨⟨dx, h1⟩, _, ⟨b', h4, h5, h6⟩⟩, q⟩ := h
    refine ⟨_, pss_one (ps_ret (pe_callB call_iterL (by rfl) B.iter boot_iter (pa_cons (pe_fld (pv 0) rfl) pa_nil))), ?_⟩
    refine ⟨_, rfl, p, C, dx, _, _, rfl, h1, S.cl, S.nN, flds_n _ _ _, np, _, rfl, SqL.of h6, fun it nit => q it nit⟩
/-- a key looked up in the sheet's dicts: found, or not there -/
def spGet (C CK : Addr) (side : Bool) : Sp := fun vs H Q E => ∃ (p pp bp np : Addr) (l b : List (Str × V)) (x : V) (k : Kd), vs = [.ref p, x] ∧ SheetAt C H p pp bp np l b ∧ Is H x k ∧ ((if side then l else b).map (·.1)).Nodup ∧
  ((∃ z v, k = .str z ∧ K1.look (if side then l else b) z = some v ∧ Q v H) ∨ ((∀ z, k = .str z → K1.look (if side then l else b) z = none) ∧ E (.ref CK) none H))
theorem ok_partner {f C CK : Addr} {fd : FuncData} (F : Fun K "partner" "Sheet.partner" sPartner f fd) (B : Bi mg) (S : ClsS K mg C) (X : ErrC K mg "BadKind" CK) : FnOk P w K mg base (L2.CX P w) 1 f fd ["self", "kind"] (spGet C CK true) := by
  refine F.okX scPartner (fun vs H Q E h => ?_) (fun cdv A outer s H vs Q E hr h => ?_)
  · obtain ⟨p, pp, bp, np, l, b, x, k, rfl, _⟩ := h
    rfl
  · obtain ⟨p, pp, bp, np, l, b, x, k, rfl, ⟨⟨dx, h1⟩, ⟨l', h2, h3⟩, _⟩, hx, hn, q⟩ := h
    have hu := hu_of hr
    refine ⟨_, pss_cons (ps_if (PW.pt (pw_or (pt_not (pt_val (pe_callB call_isi (by rfl) B.isi boot_isinstance (pa_cons (pv 1) (pa_cons (pe_bltn (by rfl) B.str boot_str (v := .ty "str") rfl) pa_nil)))))
        (pw_or1 (pt_cmp (pc_dnotin hu (pv 1) (pe_fld (pv 0) rfl)))))) (pss_one (ps_raise rfl (takes_of rfl rfl rfl rfl) (pmk_own PySem.F.excBase_ValueError X.xc X.g X.k (raises_own X.b X.t) rfl))) pss_nil)
      (pss_one (ps_ret (pe_dget hu (pe_fld (pv 0) rfl) (pv 1) (fun _ _ => rfl)))), ?_⟩
    refine ⟨_, rfl, _, _, _, _, _, rfl, .ty "str", hx.ty, kit_str k, _, rfl, ?_⟩
    cases hs : isStrK k with
    | false =>
      rcases q with ⟨z, v, rfl, _⟩ | ⟨_, q⟩
      · cases hs
      · exact q
    | true =>
      obtain ⟨y, rfl⟩ : ∃ y, k = .str y := by
        cases k with
        | str z => exact ⟨z, rfl⟩
        | _ => cases hs
      have ey := hx.str_inv
      subst ey
      show if (!true) = true then _ else _
      rw [if_neg (by decide)]
      refine ⟨_, rfl, _, rfl, p, C, dx, _, _, rfl, h1, S.cl, S.nP, flds_p _ _ _, pp, _, rfl, DGet.k (k := Sum.inr y) h2, _, rfl, ?_⟩
      rw [sk_val, h3.look hn]
      rcases q with ⟨z, v, ez, hv, q⟩ | ⟨hno, q⟩
      · cases ez
        have hv : K1.look l y = some v := hv
        rw [hv]
        show if (!true) = true then _ else _
        rw [if_neg (by decide)]
        exact ⟨_, rfl, p, C, dx, _, _, rfl, h1, S.cl, S.nP, flds_p _ _ _, _, rfl, pp, v, rfl, .inl ⟨_, Sum.inr y, .inl h2, rfl, by rw [sk_val, h3.look hn, hv]⟩, q⟩
      · have hv : K1.look l y = none := hno y rfl
        rw [hv]
        exact q
theorem ok_ends {f C CK : Addr} {fd : FuncData} (F : Fun K "ends" "Sheet.ends" sEnds f fd) (B : Bi mg) (S : ClsS K mg C) (X : ErrC K mg "BadBlock" CK) : FnOk P w K mg base (L2.CX P w) 1 f fd ["self", "name"] (spGet C CK false) := by
  refine F.okX scEnds (fun vs H Q E h => ?_) (fun cdv A outer s H vs Q E hr h => ?_)
  · obtain ⟨p, pp, bp, np, l, b, x, k, rfl, _⟩ := h
    rfl
  · obtain ⟨p, pp, bp, np, l, b, x, k, rfl, ⟨⟨dx, h1⟩, _, ⟨l', h2, h3, _⟩⟩, hx, hn, q⟩ := h
    have hu := hu_of hr
    refine ⟨_, pss_cons (ps_if (PW.pt (pw_or (pt_not (pt_val (pe_callB call_isi (by rfl) B.isi boot_isinstance (pa_cons (pv 1) (pa_cons (pe_bltn (by rfl) B.str boot_str (v := .ty "str") rfl) pa_nil)))))
        (pw_or1 (pt_cmp (pc_dnotin hu (pv 1) (pe_fld (pv 0) rfl)))))) (pss_one (ps_raise rfl (takes_of rfl rfl rfl rfl) (pmk_own PySem.F.excBase_ValueError X.xc X.g X.k (raises_own X.b X.t) rfl))) pss_nil)
      (pss_one (ps_ret (pe_dget hu (pe_fld (pv 0) rfl) (pv 1) (fun _ _ => rfl)))), ?_⟩
    refine ⟨_, rfl, _, _, _, _, _, rfl, .ty "str", hx.ty, kit_str k, _, rfl, ?_⟩
    cases hs : isStrK k with
    | false =>
      rcases q with ⟨z, v, rfl, _⟩ | ⟨_, q⟩
      · cases hs
      · exact q
    | true =>
      obtain ⟨y, rfl⟩ : ∃ y, k = .str y := by
        cases k with
        | str z => exact ⟨z, rfl⟩
        | _ => cases hs
      have ey := hx.str_inv
      subst ey
      show if (!true) = true then _ else _
      rw [if_neg (by decide)]
      refine ⟨_, rfl, _, rfl, p, C, dx, _, _, rfl, h1, S.cl, S.nB, flds_b _ _ _, bp, _, rfl, DGet.k (k := Sum.inr y) h2, _, rfl, ?_⟩
      rw [sk_val, h3.look hn]
      rcases q with ⟨z, v, ez, hv, q⟩ | ⟨hno, q⟩
      · cases ez
        have hv : K1.look b y = some v := hv
        rw [hv]
        show if (!true) = true then _ else _
        rw [if_neg (by decide)]
        exact ⟨_, rfl, p, C, dx, _, _, rfl, h1, S.cl, S.nB, flds_b _ _ _, _, rfl, bp, v, rfl, .inl ⟨_, Sum.inr y, .inl h2, rfl, by rw [sk_val, h3.look hn, hv]⟩, q⟩
      · have hv : K1.look b y = none := hno y rfl
        rw [hv]
        exact q
def spCont (C : Addr) : Sp := fun vs H Q _ => ∃ (p pp bp np : Addr) (l b : List (Str × V)) (z : Str), vs = [.ref p, .str z] ∧ SheetAt C H p pp bp np l b ∧ (b.map (·.1)).Nodup ∧ Q (.bl (K1.look b z).isSome) H
theorem ok_cont {f C : Addr} {fd : FuncData} (F : Fun K "__contains__" "Sheet.__contains__" sCont f fd) (B : Bi mg) (S : ClsS K mg C) : FnOk P w K mg base CX0 1 f fd ["self", "name"] (spCont C) := by
  refine F.ok scCont (fun vs H Q E h => ?_) (fun cdv A outer s H vs Q E hr h => ?_)
  · obtain ⟨p, pp, bp, np, l, b, z, rfl, _⟩ := h
    rfl
  · obtain ⟨p, pp, bp, np, l, b, z, rfl, ⟨⟨dx, h1⟩, _, ⟨l', h2, h3, _⟩⟩, hn, q⟩ := h
    have hu := hu_of hr
    refine ⟨_, pss_one (ps_ret (pe_and (pe_callB call_isi (by rfl) B.isi boot_isinstance (pa_cons (pv 1) (pa_cons (pe_bltn (by rfl) B.str boot_str (v := .ty "str") rfl) pa_nil)))
        (pe_one (pe_cmp (pc_din hu (pv 1) (pe_fld (pv 0) rfl)))))), ?_⟩
    refine ⟨_, rfl, _, _, _, _, _, rfl, .ty "str", (Is.str z).ty, kit_str _, true, rfl, ?_⟩
    rw [if_pos rfl]
    refine ⟨_, rfl, _, rfl, p, C, dx, _, _, rfl, h1, S.cl, S.nB, flds_b _ _ _, bp, _, rfl, DGet.k (k := Sum.inr z) h2, ?_⟩
    rw [sk_val, h3.look hn]
    exact q
end
end K1

set_option Elab.async false
set_option linter.all false
set_option maxRecDepth 100000
set_option maxHeartbeats 1000000
namespace K1
open PySem PySem.Spec PyProof.Rows L2
/-- texts as values -/
def pl (ps : List (Str × Str)) : List (Str × V) := ps.map fun p => (p.1, V.str p.2)
theorem sk_pl (ps : List (Str × Str)) : sk (pl ps) = pk ps := by
  unfold sk pl pk
  rw [List.map_map]
  rfl
theorem pl_keys (ps : List (Str × Str)) : (pl ps).map (·.1) = ps.map (·.1) := by
  unfold pl
  rw [List.map_map]
  rfl
theorem look_pl : ∀ (ps : List (Str × Str)) (a : Str), K1.look (pl ps) a = (K1.look ps a).map V.str
  | [], _ => rfl
  | p :: r, a => by
    have ih := look_pl r a
    unfold K1.look pl at ih ⊢
    rw [List.map_cons, List.find?_cons, List.find?_cons]
    by_cases e : p.1 = a
    · rw [decide_eq_true e]; rfl
    · rw [decide_eq_false e]; exact ih
/-- is a kind a joint -/
def jt (p : Str × Str) : Bool := !decide (p.2.cps.toList < p.1.cps.toList)
theorem lt_iff : ∀ a b : List Nat, decide (a < b) = ltCps a b
  | [], [] => by simp [ltCps]
  | [], _ :: _ => by simp [ltCps]
  | _ :: _, [] => by simp [ltCps]
  | a :: r, b :: t => by
    have ih := lt_iff r t
    unfold ltCps
    rw [← ih]
    have e : ((a :: r) < (b :: t)) ↔ (a < b ∨ a = b ∧ r < t) := List.cons_lt_cons_iff
    by_cases h1 : a < b
    · rw [decide_eq_true (e.mpr (.inl h1)), decide_eq_true h1, Bool.true_or]
    · by_cases h2 : a = b
      · subst h2
        by_cases h3 : r < t
        · rw [decide_eq_true (e.mpr (.inr ⟨rfl, h3⟩)), decide_eq_true h3]; simp
        · rw [decide_eq_false (fun q => (e.mp q).elim h1 fun z => h3 z.2), decide_eq_false h1, decide_eq_false h3]; simp
      · rw [decide_eq_false (fun q => (e.mp q).elim h1 fun z => h2 z.1), decide_eq_false h1]
        simp [h2]
theorem sorted_pw : ∀ {l : List Str}, sortedS l = true → l.Pairwise (fun a b => ltCps b.cps.toList a.cps.toList = false)
  | [], _ => List.Pairwise.nil
  | x :: r, h => List.Pairwise.cons (fun y hy => sorted_head h y (List.mem_cons_of_mem _ hy)) (sorted_pw (sorted_tail h))
theorem sorted_filter {l : List Str} (h : sortedS l = true) (f : Str → Bool) : sortedS (l.filter f) = true := sortedS_of_pairwise _ ((sorted_pw h).filter f)
/-- from a permuted dict of texts, its pairs -/
theorem sd_pl {ps : List (Str × Str)} {l' : List (Str × V)} (h : SD (pl ps) l') (hn : (ps.map (·.1)).Nodup) : ∃ qs, l' = pl qs ∧ qs.Perm ps := by
  have key : ∀ l'' : List (Str × V), (∀ p ∈ l'', look (pl ps) p.1 = some p.2) → ∃ qs, l'' = pl qs ∧ ∀ q ∈ qs, q ∈ ps := by
    intro l''
    induction l'' with
    | nil => exact fun _ => ⟨[], rfl, by simp⟩
    | cons p r ih =>
      intro hv
      obtain ⟨qs, e, hq⟩ := ih fun q hq => hv q (List.mem_cons_of_mem _ hq)
      have e1 := hv p List.mem_cons_self
      rw [look_pl] at e1
      obtain ⟨y, hy, ey⟩ := Option.map_eq_some_iff.mp e1
      refine ⟨(p.1, y) :: qs, ?_, fun q hq' => ?_⟩
      · obtain ⟨p1, p2⟩ := p
        have ey : V.str y = p2 := ey
        rw [e, ← ey]
        rfl
      · rcases List.mem_cons.mp hq' with z | z
        · rw [z]; exact look_mem hy
        · exact hq q z
  obtain ⟨qs, e, hq⟩ := key l' h.val
  refine ⟨qs, e, ?_⟩
  have hp := h.perm
  rw [e, pl_keys, pl_keys] at hp
  have hnq : (qs.map (·.1)).Nodup := hp.nodup_iff.mpr hn
  have nd1 : qs.Nodup := by
    clear hq hp e
    induction qs with
    | nil => exact List.nodup_nil
    | cons q r ih =>
      rw [List.map_cons, List.nodup_cons] at hnq
      exact List.nodup_cons.mpr ⟨fun m => hnq.1 (List.mem_map_of_mem m), ih hnq.2⟩
  have nd2 : ps.Nodup := by
    clear hq hp e h key
    induction ps with
    | nil => exact List.nodup_nil
    | cons q r ih =>
      rw [List.map_cons, List.nodup_cons] at hn
      exact List.nodup_cons.mpr ⟨fun m => hn.1 (List.mem_map_of_mem m), ih hn.2⟩
  rw [List.perm_ext_iff_of_nodup nd1 nd2]
  intro a
  refine ⟨hq a, fun ha => ?_⟩
  obtain ⟨b, hb, eb⟩ := List.mem_map.mp (hp.mem_iff.mpr (List.mem_map_of_mem ha))
  have e1 := look_some hn ha
  have e2 := look_some hn (hq b hb)
  rw [eb] at e2
  have e3 : a.2 = b.2 := Option.some.inj (e1.symm.trans e2)
  have : a = b := Prod.ext eb.symm e3
  rw [this]
  exact hb
/-- a comprehension over a dict's pairs -/
theorem lc_items {d : Addr} {o : Obj} {kvs : List (Key × V)} {g : TG} {tt : TT} {te : TE} {vs : List Nat} {σ : L2.St} {H1 : Hp} {D : Addr} {Qd : Hp → Prop} (Pv : Nat → Hp → Prop) (h0 : Pv 0 (upd H1 D (.lst []))) (hl : ∀ i H, Pv i H → H d = some (.frz o (.dK kvs)))
    (hs : ∀ i k v T H, kvs[i]? = some (k, v) → H T = none → Pv i H → g (.ref T) (wipe σ vs) (upd H T (.tup [kV k, v])) fun σ2 H2 => wipe σ2 vs = wipe σ vs ∧ tt σ2 H2 fun b H3 =>
      if b = true then te σ2 H3 fun y H4 => ∃ acc, H4 D = some (.lst acc) ∧ acc.length < sizeLine ∧ Pv (i + 1) (upd H4 D (.lst (acc ++ [y]))) else Pv (i + 1) H3) (hd : ∀ H, Pv kvs.length H → Qd H) :
    ∃ W : Nat → Nat → Hp → Prop, (∃ m, W 0 m (upd H1 D (.lst []))) ∧ ∀ i m H, W i m H →
      ((Iti d o kvs).stop i H ∧ Qd H) ∨ ((Iti d o kvs).go i H ∧ ∃ Nx : Hp → Prop, (∀ H', Nx H' → ∃ m', m' < m ∧ W (i + 1) m' H') ∧ ∀ x H', (Iti d o kvs).yld i H x H' → g x (wipe σ vs) H' fun σ2 H2 => wipe σ2 vs = wipe σ vs ∧ tt σ2 H2 fun b H3 =>
        if b = true then te σ2 H3 fun y H4 => ∃ acc, H4 D = some (.lst acc) ∧ acc.length < sizeLine ∧ Nx (upd H4 D (.lst (acc ++ [y]))) else Nx H3) := by
  refine ⟨fun i m H => m = kvs.length - i ∧ i ≤ kvs.length ∧ Pv i H, ⟨kvs.length, by simp, Nat.zero_le _, h0⟩, ?_⟩
  rintro i m H ⟨rfl, hi, p⟩
  have q := hl i H p
  by_cases hlt : i < kvs.length
  · refine .inr ⟨⟨q, hlt⟩, Pv (i + 1), fun H' p' => ⟨kvs.length - (i + 1), by omega, rfl, hlt, p'⟩, fun x H' y => ?_⟩
    obtain ⟨T, k, v, e, ex, eT, eH⟩ := y
    subst ex
    subst eH
    exact hs i k v T _ e eT p
  · have e : i = kvs.length := by omega
    subst e
    exact .inl ⟨⟨q, Nat.le_refl _⟩, hd H p⟩
section
variable {P : Program} {w : World} {K : PySem.W.Frag} {mg : Str → Option Value} {base : Heap}
def spJoints (C : Addr) : Sp := fun vs H Q _ => ∃ (p pp bp np : Addr) (ps : List (Str × Str)) (b : List (Str × V)), vs = [.ref p] ∧ SheetAt C H p pp bp np (pl ps) b ∧ (ps.map (·.1)).Nodup ∧ ps.length ≤ 100 ∧
  ∀ (L : Addr) (js : List Str) (H' : Hp), js.Perm ((ps.filter jt).map (·.1)) → sortedS js = true → H L = none → H' L = some (.lst (js.map V.str)) → Same H H' → Q (.ref L) H'
theorem ok_joints {f C : Addr} {fd : FuncData} (F : Fun K "joints" "Sheet.joints" sJoints f fd) (B : Bi mg) (S : ClsS K mg C) : FnOk P w K mg base CX0 1 f fd ["self"] (spJoints C) := by
  refine F.ok scJoints (fun vs H Q E h => ?_) (fun cdv A outer s H vs Q E hr h => ?_)
  · obtain ⟨p, pp, bp, np, l, b, rfl, _⟩ := h
    rfl
  · obtain ⟨p, pp, bp, np, ps, b, rfl, ⟨⟨dx, h1⟩, ⟨l', h2, h3⟩, _⟩, hn, hlen, q⟩ := h
    obtain ⟨qs, rfl, perm⟩ := sd_pl h3 hn
    have hsrt := h3.sorted
    rw [pl_keys] at hsrt
    refine ⟨_, pss_one (ps_ret (pe_lock (pe_lc (own := [("kind", 1), ("other", 2)]) (g := gTup K 2 (gCons (gName 1) (gCons (gName 2) gNil))) rfl scJoints.nd (pi_items (pe_fld (pv 0) rfl)) (blkOk_by (own := [("kind", 1), ("other", 2)]) (N := ["self", "kind", "other"]) (sc := defScope sJoints) (by decide +kernel))
        (fun _ _ _ _ _ => pg_tup rfl (pgs_cons (pg_name (i := 1) scJoints.nd rfl (.inl rfl)) (pgs_cons (pg_name (i := 2) scJoints.nd rfl (.inl rfl)) pgs_nil))) (fun _ _ _ _ _ => pts_one (pt_cmpR op_le_str (pv 1) (pv 2) (nomark _))) (fun _ _ _ _ _ => pv 1)))), ?_⟩
    have hpp : p ≠ pp := ne_of h1 h2 (by intro z; cases z)
    refine ⟨pp, _, h2, True.intro, fun od => ⟨_, rfl, p, C, dx, _, _, rfl, by rw [upd_ne hpp]; exact h1, S.cl, S.nP, flds_p _ _ _, pp, od, _, rfl, upd_same, fun L nL => ?_⟩⟩
    have nLp : L ≠ pp := fun e => by rw [e, upd_same] at nL; cases nL
    have nL0 : H L = none := by rw [upd_ne nLp] at nL; exact nL
    refine lc_items (fun i H2 => H2 L = some (.lst ((((qs.take i).filter jt).map (·.1)).map V.str)) ∧ ∀ c o, c ≠ L → (upd H pp (.frz od (.dK (sk (pl qs))))) c = some o → H2 c = some o) ⟨upd_same, fun c o n e => by rw [upd_ne n]; exact e⟩ (fun i H2 q => q.2 _ _ nLp.symm upd_same) ?_ ?_
    · rintro i k v T H2 hkv nT ⟨e1, e2⟩
      obtain ⟨a, ha, rfl, rfl⟩ : ∃ a, qs[i]? = some a ∧ k = Sum.inr a.1 ∧ v = .str a.2 := by
        unfold sk pl at hkv
        rw [List.map_map, List.getElem?_map] at hkv
        cases hp : qs[i]? with
        | none => rw [hp] at hkv; cases hkv
        | some a =>
          rw [hp] at hkv
          have := Option.some.inj hkv
          exact ⟨a, rfl, (congrArg Prod.fst this).symm, (congrArg Prod.snd this).symm⟩
      have nTL : T ≠ L := (ne_of_none e1 nT).symm
      refine ⟨T, _, rfl, SqT.of upd_same, rfl, _, _, rfl, _, _, rfl, rfl, rfl, ?_⟩
      refine ⟨_, rfl, _, rfl, _, _, rfl, rfl, _, rfl, ?_⟩
      have e1T : ∀ {o}, (upd H2 T o) L = some (.lst ((((qs.take i).filter jt).map (·.1)).map V.str)) := fun {o} => by rw [upd_ne nTL.symm]; exact e1
      have e2T : ∀ {o}, ∀ c u, c ≠ L → (upd H pp (.frz od (.dK (sk (pl qs))))) c = some u → (upd H2 T o) c = some u := fun {o} c u n e => by
        have := e2 c u n e
        rw [upd_ne (ne_of_none this nT)]
        exact this
      show if jt a = true then _ else _
      cases hj : jt a with
      | true =>
        rw [if_pos rfl]
        refine ⟨_, rfl, _, e1T, ?_, ?_, fun c u n e => by rw [upd_ne n]; exact e2T c u n e⟩
        · rw [List.length_map, List.length_map]
          refine small1000 (Nat.le_trans (List.length_filter_le _ _) (Nat.le_trans (List.length_take_le _ _) ?_))
          have := (List.getElem?_eq_some_iff.mp ha).1
          have := perm.length_eq
          omega
        · rw [upd_same, List.take_add_one, ha, List.filter_append, List.map_append, List.map_append]
          simp [hj]
          rfl
      | false =>
        rw [if_neg Bool.false_ne_true]
        refine ⟨?_, e2T⟩
        rw [List.take_add_one, ha, List.filter_append]
        simp only [Option.toList, List.filter_cons, hj, List.filter_nil, Bool.false_eq_true, if_false, List.append_nil]
        exact e1T
    · rintro H2 ⟨e1, e2⟩
      refine ⟨e2 _ _ nLp.symm upd_same, ?_⟩
      have el : qs.take (sk (pl qs)).length = qs := by unfold sk pl; rw [List.length_map, List.length_map]; exact List.take_length
      rw [el] at e1
      have s2 : Same (upd H pp (.frz od (.dK (sk (pl qs))))) H2 := fun c o e => e2 c o (ne_of_none e nL) e
      refine q L _ _ ?_ ?_ nL0 (by rw [upd_ne nLp]; exact e1) (Same.lock h2 s2)
      · exact (perm.filter jt).map (·.1)
      · exact sortedS_of_pairwise _ (List.pairwise_map.mpr ((List.pairwise_map.mp (sorted_pw hsrt)).filter jt))
def spJoint (C CK : Addr) : Sp := fun vs H Q E => ∃ (p pp bp np : Addr) (l b : List (Str × V)) (x : V) (k : Kd), vs = [.ref p, x] ∧ SheetAt C H p pp bp np l b ∧ Is H x k ∧ (l.map (·.1)).Nodup ∧
  ((∃ z v, k = .str z ∧ K1.look l z = some (.str v) ∧ Q (.str (minS z v)) H) ∨ ((∀ z, k = .str z → K1.look l z = none) ∧ E (.ref CK) none H))
/-- two sheets of the same kinds: the same blocks, or not as many -/
def spEqS (C : Addr) : Sp := fun vs H Q _ => ∃ (p q pp bp np pp' bp' np' : Addr) (l b b2 : List (Str × V)), vs = [.ref p, .ref q] ∧ SheetAt C H p pp bp np l b ∧ SheetAt C H q pp' bp' np' l b2 ∧ (l.map (·.1)).Nodup ∧ (b.map (·.1)).Nodup ∧ (b2.map (·.1)).Nodup ∧
  (∀ x ∈ l, flatR x.2 = true) ∧ (∀ x ∈ b, flatR x.2 = true) ∧
  ((b.length = b2.length ∧ (∀ x ∈ b, K1.look b2 x.1 = some x.2) ∧ Q (.bl true) H) ∨ (b.length ≠ b2.length ∧ Q (.bl false) H))
/-- what isinstance asks of the class -/
structure IsC (K : PySem.W.Frag) (C : Addr) : Prop where
  ha : PySem.W.findIn K (.ref C) "__class__" = some (some (.builtin "object.__class__"))
  hn : PySem.W.specialIn K (.builtin "object.__class__") "__get__" = some (some (.builtin "getset_descriptor.__get__"))
  ht : PySem.W.takesIn K (.builtin "object.__class__") = some true
  hm : PySem.W.mroIn K C (.type "object") = some true
theorem flat_sd {l l' : List (Str × V)} (h : SD l l') (f : ∀ x ∈ l, flatR x.2 = true) : ∀ x ∈ l', flatR x.2 = true := fun x hx => by
  have e := look_mem (h.val x hx)
  exact f _ e
theorem ok_eqS {f C : Addr} {fd : FuncData} (F : Fun K "__eq__" "Sheet.__eq__" sEq f fd) (B : Bi mg) (S : ClsS K mg C) (I : IsC K C) : FnOk P w K mg base CX0 1 f fd ["self", "other"] (spEqS C) := by
  refine F.ok scEq (fun vs H Q E h => ?_) (fun cdv A outer s H vs Q E hr h => ?_)
  · obtain ⟨p, q, pp, bp, np, pp', bp', np', l, b, b2, rfl, _⟩ := h
    rfl
  · obtain ⟨p, q, pp, bp, np, pp', bp', np', l, b, b2, rfl, ⟨⟨dx, h1⟩, ⟨l1, h2, h3⟩, ⟨b1, h4, h5, _⟩⟩, ⟨⟨dy, g1⟩, ⟨l2, g2, g3⟩, ⟨b3, g4, g5, _⟩⟩, ln, bn, b2n, lf, bf, k⟩ := h
    have hu : (A.deeper (envOfC "Sheet.__eq__" (defScope sEq) s.heap.objs.size f cdv)).units < cLine := by have := hr.un; omega
    refine ⟨_, pss_one (ps_ret (pe_and (pe_callB call_isi (by rfl) B.isi boot_isinstance (pa_cons (pv 1) (pa_cons (pe_glob rfl S.g (v := .ref C) rfl) pa_nil)))
      (pe_and (pe_cmpR (op_eqDR hu) (pe_fld (pv 0) rfl) (pe_fld (pv 1) rfl) (nomark _)) (pe_one (pe_cmpR (op_eqDR hu) (pe_fld (pv 0) rfl) (pe_fld (pv 1) rfl) (nomark _)))))), ?_⟩
    refine ⟨_, rfl, _, _, _, _, true, rfl, .own C, .base (.ins g1 S.cl I.ha I.hn I.ht I.hm), by unfold PySem.W.kitOne; rw [if_pos (by simp)], true, rfl, ?_⟩
    rw [if_pos rfl]
    refine ⟨_, rfl, p, C, dx, _, _, rfl, h1, S.cl, S.nP, flds_p _ _ _, _, rfl, q, C, dy, _, _, rfl, g1, S.cl, S.nP, flds_p _ _ _, pp, pp', _, _, rfl, rfl, h2, g2, .inl ⟨?_, ?_, true, rfl, ?_⟩⟩
    · unfold sk
      rw [List.length_map, List.length_map, h3.len, g3.len]
    · intro x hx
      obtain ⟨a, ha, rfl⟩ := List.mem_map.mp hx
      refine ⟨?_, flat_sd h3 lf a ha⟩
      show valV (sk l2) (Sum.inr a.1) = some a.2
      rw [sk_val, g3.look ln]
      exact h3.val a ha
    rw [if_pos rfl]
    refine ⟨_, rfl, p, C, dx, _, _, rfl, h1, S.cl, S.nB, flds_b _ _ _, _, rfl, q, C, dy, _, _, rfl, g1, S.cl, S.nB, flds_b _ _ _, bp, bp', _, _, rfl, rfl, h4, g4, ?_⟩
    have e1 : (sk b1).length = b.length := by unfold sk; rw [List.length_map, h5.len]
    have e2 : (sk b3).length = b2.length := by unfold sk; rw [List.length_map, g5.len]
    rw [e1, e2]
    rcases k with ⟨k1, k2, k3⟩ | ⟨k1, k3⟩
    · refine .inl ⟨k1, ?_, k3⟩
      intro x hx
      obtain ⟨a, ha, rfl⟩ := List.mem_map.mp hx
      refine ⟨?_, flat_sd h5 bf a ha⟩
      show valV (sk b3) (Sum.inr a.1) = some a.2
      rw [sk_val, g5.look b2n]
      exact k2 _ (look_mem (h5.val a ha))
    · exact .inr ⟨k1, k3⟩
end
end K1

set_option Elab.async false
set_option linter.all false
set_option maxRecDepth 100000
set_option maxHeartbeats 1000000
namespace K1
open PySem PySem.Spec PyProof.Rows L2
section
variable {M : Model} {A : Around} {E : Value → Shared → Prop} {s : Shared} {K : PySem.W.Frag} {x C f : Addr} {ox : Obj} {od : Option Obj}
theorem ifBoundU_K {name : Str} {refuse : Sem Value} {Q : Option Value → Shared → Prop} (X : K.In s.heap) (I : PySem.W.InstAt s.heap x ox C od) (hs : PySem.W.findIn K (.ref C) name = some (some (.ref f))) (hf : PySem.W.isFn K (.ref f) = true)
    (h : wpAny M A (call (.ref f) [.ref x]) (fun v => Q (some v)) E s) : wpAny M A (do
      let some (g, first) ← bindSpecialIfBound? (.ref x) name | return none
      if g == .none then return some (← refuse)
      return some (← call g first)) Q E s := by
  simp only [bindSpecialIfBound?]
  refine wpAny_bind (wpAny_bind (wpAny_bind (I.type.here ((PySem.W.looks_findIn X hs).here ?_))))
  refine wpAny_bind (wpAny_askSetting (wpAny_ite ?_))
  have fin : wpAny M A (call (.ref f) [.ref x] >>= fun v => pure (some v)) Q E s := wpAny_bind (wpAny_mono h (fun v s' h' => wpAny_pure h') fun _ _ h' => h')
  split
  · refine wpAny_bind ((PySem.W.bind_fn X _ (beq_iff_eq.mp hf)).here (wpAny_pure ?_))
    dsimp only
    rw [if_neg (by simp)]
    exact fin
  · refine wpAny_tryCatch (wpAny_bind ((PySem.W.bind_fn X _ (beq_iff_eq.mp hf)).here (wpAny_pure ?_)))
    dsimp only
    rw [if_neg (by simp)]
    exact fin
theorem pyIter_ownK {Q : Value → Shared → Prop} (X : K.In s.heap) (I : PySem.W.InstAt s.heap x ox C od) (hs : PySem.W.findIn K (.ref C) "__iter__" = some (some (.ref f))) (hf : PySem.W.isFn K (.ref f) = true)
    (h : wpAny M A (call (.ref f) [.ref x]) (fun v s' => ∃ it l i, v = .ref it ∧ s'.heap.get? it = some (GNX.itObj l i) ∧ Q (.ref it) s') E s) : wpAny M A (pyIter (.ref x)) Q E s := by
  unfold pyIter
  refine wpAny_bind (wpAny_bind (I.type.here ((PySem.W.looks_findIn X hs).here ?_)))
  dsimp only
  unfold callSpecialIfBoundUnlessNone?
  refine wpAny_bind (wpAny_holding (ifBoundU_K X I hs hf (wpAny_mono h (fun v s' hv => ?_) fun _ _ e => e)))
  obtain ⟨it, l, i, rfl, e, q⟩ := hv
  dsimp only
  have hT : s'.TypeIs (.ref it) "list_iterator" := ⟨_, e, rfl⟩
  exact wpAny_bind (wpAny_specialOf (name := Str.ofString "__next__") hT slot_listiter_next.lookup (wpAny_pure q))
end
section
variable {X : Cx} {CX : CXT} {n : Nat} {C f : Addr} {fd : FuncData} {ps : List Str} {sp : Sp} {E0 : XK}
theorem run_ownN {A : Around} {pins : List (Addr × Obj)} {σ : L2.St} {H : Hp} {s : Shared} {us : List Value} {vs : List V} {Q : VK} (F : FnOk X.prog X.w X.K X.mg X.base CX n f fd ps sp) (hb : Binds X.K fd ps []) (hx : Passes CX X E0) (sb : Sub X n A) (I : Inv X pins σ H s)
    (r2 : Vals vs us) (hsp : sp vs H Q E0) : wpAny (model X.prog X.w) A (call (.ref f) us) (EP X pins σ Q) X.xe s := by
  have e0 : Env0 X.prog X.w X.K X.mg X.base A X.stack s H := by
    have e := I.env0
    exact ⟨by rw [sb.fr]; exact e.frames, e.mod, e.bs, e.bsz, e.funs, e.frf, e.hok, e.bare⟩
  have hl := F.len _ _ _ _ hsp
  refine wpAny_call (codeAny_mono (F.run A X.stack s H ⟨us, []⟩ us vs _ E0 sb.room e0 (by
    have := hb s us I.kIn (by rw [List.append_nil, ← r2.length]; exact hl)
    rw [List.append_nil] at this
    exact this) r2 hsp) fun r s' hq => ?_)
  cases r with
  | error e => exact hx pins σ H s e s' I hq
  | ok fl =>
    cases fl with
    | ret w => exact I.after hq
    | next => exact False.elim hq
    | brk => exact False.elim hq
    | cont => exact False.elim hq
/-- len(o), by the class's own -/
theorem call_lenOwn (F : FnOk X.prog X.w X.K X.mg X.base CX n f fd ps sp) (hs : PySem.W.findIn X.K (.ref C) "__len__" = some (some (.ref f))) (hf : PySem.W.isFn X.K (.ref f) = true) (hb : Binds X.K fd ps []) (hx : Passes CX X E0) (hr : Room (n + 1) X.A) :
    CallR X (.builtin "len") (fun xs H Q => ∃ a dx fs, xs = [.ref a] ∧ H a = some (.ins C dx fs) ∧ sp [.ref a] H (fun v H' => ∃ m : Int, v = .int m ∧ (0 ≤ m ∧ m < 2 ^ 63) ∧ Q (.int m) H') E0) := by
  intro pins s σ H xs us Q I r h
  obtain ⟨a, dx, fs, rfl, ha, hsp⟩ := h
  obtain ⟨u, rfl, ru⟩ := vals1 r
  cases ru
  obtain ⟨mA, J, _⟩ := ins_get I.hok ha
  obtain ⟨od, J, _⟩ := J.look
  obtain ⟨m, hF⟩ := I.fr
  have sb : Sub X (n + 1) X.A := ⟨hr, rfl⟩
  refine PySem.W.len_K hF I.ok.mod.kin J hs hf (wpAny_mono (run_ownN F hb hx sb.in1 I (.cons (show L2.RelV (.ref a) (.ref a) from rfl) .nil) hsp) (fun v s' q => ?_) fun _ _ e => e)
  obtain ⟨z, H', I', rz, m, ez, hm, q⟩ := q
  subst ez
  obtain ⟨t, rfl⟩ := rz
  exact ⟨hm, .int m, H', I'.tok _, ⟨_, rfl⟩, q⟩
/-- x in o, x not in o, by the class's own -/
def rOwnIn (C : Addr) (sp : Sp) (E0 : XK) (g : Bool → Bool) : R2 := fun x y H Q => ∃ a dx fs, y = .ref a ∧ H a = some (.ins C dx fs) ∧ sp [.ref a, x] H (fun v H' => ∃ r, v = .bl r ∧ Q (.bl (g r)) H') E0
theorem op_inOwn (F : FnOk X.prog X.w X.K X.mg X.base CX n f fd ps sp) (hs : PySem.W.findIn X.K (.ref C) "__contains__" = some (some (.ref f))) (hf : PySem.W.isFn X.K (.ref f) = true) (hb : Binds X.K fd ps []) (hx : Passes CX X E0) (hr : Room n X.A) :
    OpR X (compareOp .In) (rOwnIn C sp E0 id) := by
  intro pins s σ H x y v u Q I rx ry h
  obtain ⟨a, dx, fs, rfl, ha, hsp⟩ := h
  cases ry
  obtain ⟨mA, J, _⟩ := ins_get I.hok ha
  obtain ⟨od, J, _⟩ := J.look
  obtain ⟨m, hF⟩ := I.fr
  refine PySem.W.in_K hF I.ok.mod.kin J hs hf (wpAny_mono (run_ownN F hb hx ⟨hr, rfl⟩ I (.cons (show L2.RelV (.ref a) (.ref a) from rfl) (.cons rx .nil)) hsp) (fun r s' q => ?_) fun _ _ e => e)
  obtain ⟨z, H', I', rz, b, ez, q⟩ := q
  subst ez
  cases rz
  exact wpAny_truthy_bool ⟨.bl b, H', I', rfl, q⟩
theorem op_notInOwn (F : FnOk X.prog X.w X.K X.mg X.base CX n f fd ps sp) (hs : PySem.W.findIn X.K (.ref C) "__contains__" = some (some (.ref f))) (hf : PySem.W.isFn X.K (.ref f) = true) (hb : Binds X.K fd ps []) (hx : Passes CX X E0) (hr : Room n X.A) :
    OpR X (compareOp .NotIn) (rOwnIn C sp E0 not) := by
  intro pins s σ H x y v u Q I rx ry h
  obtain ⟨a, dx, fs, rfl, ha, hsp⟩ := h
  cases ry
  obtain ⟨mA, J, _⟩ := ins_get I.hok ha
  obtain ⟨od, J, _⟩ := J.look
  obtain ⟨m, hF⟩ := I.fr
  refine PySem.W.notIn_K hF I.ok.mod.kin J hs hf (wpAny_mono (run_ownN F hb hx ⟨hr, rfl⟩ I (.cons (show L2.RelV (.ref a) (.ref a) from rfl) (.cons rx .nil)) hsp) (fun r s' q => ?_) fun _ _ e => e)
  obtain ⟨z, H', I', rz, b, ez, q⟩ := q
  subst ez
  cases rz
  exact wpAny_truthy_bool ⟨.bl (!b), H', I', rfl, q⟩
end
section
variable {X : Cx} {f C : Addr} {fd : FuncData} {tg e : Expr} {td : TE}
def iOwn (K : PySem.W.Frag) (C : Addr) (td : TE) : TI := fun σ H R => td σ H fun x H1 => ∃ p pp bp np l b, x = .ref p ∧ SheetAt C H1 p pp bp np l b ∧ R (Itl K np) H1
theorem pi_own (he : PE X e td) (F : Fun X.K "__iter__" "Sheet.__iter__" sIter f fd) (B : Bi X.mg) (S : ClsS X.K X.mg C) (mI : Meth X.K C "__iter__" f) (hb : Binds X.K fd ["self"] []) (hr : Room 1 X.A) : PI X tg e (iOwn X.K C td) := by
  refine ⟨fun pins s σ H R I h => ?_⟩
  refine thn (he.run pins s σ H _ I h) fun u s1 ⟨x, H1, I1, rx, p, pp, bp, np, l, b, ex, hS, q⟩ => ?_
  subst ex
  obtain rfl : u = Value.ref p := rx
  obtain ⟨⟨dx, h1⟩, _, ⟨b', h4, h5, h6⟩⟩ := id hS
  obtain ⟨mA, J, _⟩ := ins_get I1.hok h1
  obtain ⟨od, J, _⟩ := J.look
  refine pyIter_ownK I1.kIn J mI.at_ mI.fn ?_
  obtain ⟨oc, od', kV, doc, pm, an, cdv, ct, osl, rfl, lk, hcd⟩ := F.ex
  have bd := hb s1 [.ref p] I1.kIn rfl
  have rc : codeAny (model X.prog X.w) X.A (.call (.ref f) ⟨[.ref p], []⟩) (CR C8.CX0 X.stack X.prog X.w H1 s1 (fun v H' => ∃ it, v = .ref it ∧ H1 it = none ∧ s1.heap.objs.size ≤ it ∧ H' = upd H1 it (ItO np it 0)) C8.E0) s1 := by
    refine LamX.run_ofS (N := ["self"]) (ps := ["self"]) (us := [.ref p]) (vs := [.ref p]) lk hcd scIter hr I1.env0 bd (.cons rfl .nil) rfl fun hr' => ?_
    refine ⟨_, (show PSs (cxOf C8.CX0 X.prog X.w X.K X.mg X.base ["self"] "Sheet.__iter__" (defScope sIter) f cdv X.A X.stack s1 H1 C8.E0) (defBody sIter) _ from
      pss_one (ps_ret (pe_callB (show CallR (cxOf C8.CX0 X.prog X.w X.K X.mg X.base ["self"] "Sheet.__iter__" (defScope sIter) f cdv X.A X.stack s1 H1 C8.E0) _ (ItX.rIterN X.K s1.heap.objs.size) from ItX.call_iterN) (by rfl) B.iter boot_iter (pa_cons (pe_fld (pv 0) rfl) pa_nil)))), ?_⟩
    refine ⟨_, rfl, p, C, dx, _, _, rfl, h1, S.cl, S.nN, flds_n _ _ _, np, _, rfl, SqL.of h6, fun it nit hn => ?_⟩
    exact ⟨it, rfl, nit, hn, rfl⟩
  refine wpAny_call (codeAny_mono rc fun r s2 hq => ?_)
  cases r with
  | error e => exact (show False from hq).elim
  | ok fl =>
    cases fl with
    | ret u =>
      obtain ⟨z, H', I', rz, it, ez, hn, hsz, eH⟩ := I1.after hq
      subst ez
      subst eH
      cases rz
      have hi : (upd H1 it (ItO np it 0)) it = some (ItO np it 0) := upd_same
      have eo := itO_get I' hi
      refine ⟨it, np, 0, rfl, eo, ?_⟩
      have st : s2.heap.IsListIter it np 0 := ⟨_, eo, rfl, rfl⟩
      have hi' := hi
      unfold ItO at hi'
      have hd := ItX.inv_drop I' hi'
      rw [show ItX.dropH (upd H1 it (ItO np it 0)) it = H1 from ItX.dropH_upd hn] at hd
      refine ⟨it, [it], _, _, H1, rfl, hd, turn_list np it, st, fun b hb => ?_, q⟩
      have e : b = it := by simpa using hb
      rw [e]
      have fp := ItX.inv_fp I' hi (Nat.le_trans I1.sz hsz)
      rw [show ItX.dropH (upd H1 it (ItO np it 0)) it = H1 from ItX.dropH_upd hn] at fp
      exact fp
    | next => exact False.elim hq
    | brk => exact False.elim hq
    | cont => exact False.elim hq
end
end K1

set_option Elab.async false
set_option linter.all false
set_option maxRecDepth 100000
set_option maxHeartbeats 1000000
namespace K1
open PySem PySem.Spec PyProof.Rows L2
/-- a clause that names its exception: what its suite is asked -/
def tsAs (i : Nat) (ts : Addr → Value → Option Addr → TS) : Addr → Value → Option Addr → TS := fun a cls d D σ H =>
  ts a cls d { nx := fun σ' H' => D.nx (σ'.set i none) H', rt := D.rt, bk := fun σ' H' => D.bk (σ'.set i none) H', ct := fun σ' H' => D.ct (σ'.set i none) H' } (σ.set i (some (.ref a))) H
/-- clauses, some with a name -/
inductive Cl (X : Cx) : List ExceptHandler → List (Value × (Addr → Value → Option Addr → TS)) → Prop
  | done : Cl X [] []
  | plain {x : Str} {c : Value} {ts : Addr → Value → Option Addr → TS} {b₀ : Stmt} {suite : List Stmt} {p1 p2 : Pos} {hds : List ExceptHandler} {l : List (Value × (Addr → Value → Option Addr → TS))} (nm : Names X x c)
      (su : ∀ a oe cls d pn, Zc cls d oe → (∃ vs, oe.data = .fields vs) → PSs (X.suite a ((a, oe) :: pn)) (b₀ :: suite) (ts a cls d)) (more : Cl X hds l) :
      Cl X (.ExceptHandler (some (.Name x p1)) none (b₀ :: suite) p2 :: hds) ((c, ts) :: l)
  | named {x n : Str} {c : Value} {i : Nat} {ts : Addr → Value → Option Addr → TS} {b₀ : Stmt} {suite : List Stmt} {p1 p2 : Pos} {hds : List ExceptHandler} {l : List (Value × (Addr → Value → Option Addr → TS))} (at_ : X.N[i]? = some n) (lo : X.env.kindOf n = some .local) (nm : Names X x c)
      (su : ∀ a oe cls d pn, Zc cls d oe → (∃ vs, oe.data = .fields vs) → PSs (X.suite a ((a, oe) :: pn)) (b₀ :: suite) (ts a cls d)) (more : Cl X hds l) :
      Cl X (.ExceptHandler (some (.Name x p1)) (some n) (b₀ :: suite) p2 :: hds) ((c, tsAs i ts) :: l)
section
variable {X : Cx} {body : List Stmt} {h₀ : ExceptHandler} {hds : List ExceptHandler} {l : List (Value × (Addr → Value → Option Addr → TS))} {pos : Pos} {tb : WX → TS} {Wout : WX}
theorem ps_try_cl {orelse : List Stmt} {u : TS} (el : PSs X orelse u) (nd : X.N.Nodup) (hs : X.stack = X.env :: X.outer) (hf : X.env.frame = some X.env.locals) (tk : Takes X Wout)
    (hb : ∀ (W : WX) (pn : List (Addr × Obj)) (xe : Value → Shared → Prop), Takes (X.tr pn xe) W → PassesOwn (model X.prog X.w) X.A X.env xe → PSs (X.tr pn xe) body (tb W)) (hc : Cl X (h₀ :: hds) l) :
    PS X (.Try body (h₀ :: hds) orelse [] pos) (fun D σ H => tb (wMany X.K Wout D l) { D with nx := u D } σ H) := by
  refine ⟨fun pins s σ H D I h => ?_⟩
  have fr0 : X.A.frames = some (X.env :: X.outer) := I.ok.frames.trans (congrArg some hs)
  refine wpAny_Try_except ?_
  refine wpAny_mono ((hb (wMany X.K Wout D l) (X.pn ++ pins) (fun e s₁ => wpAny (model X.prog X.w) X.A (noteFrame e X.env) (fun _ s₂ => wpAny (model X.prog X.w) X.A (setFlight e none) (fun _ s₃ =>
    wpAny (model X.prog X.w) X.A (handleBy e X.env (h₀ :: hds)) (SP X pins D) X.xe s₃) X.xe s₂) X.xe s₁) (fun e s' out => ?_) PassesOwn.looking).run [] s σ H { D with nx := u D } (I.toTry _) h) (fun fl s1 got => ?_) (fun _ _ z => z)
  · obtain ⟨a, B, s0, _, σ1, H1, cls, d, rfl, It, nb, up1, sky, free, os, ag, wish⟩ := out
    have I1 : Inv X pins σ1 H1 s0 := It.ofTry I.ok
    rw [hs] at sky
    refine Sky.land Zc.steady fr0 hf sky fun h3 land up2 => ?_
    have up := up1.trans up2
    have I3 : Inv X pins σ1 H1 { s' with heap := h3 } := I1.landed nb land.1 up os ag
    obtain ⟨oe, vs, at3, zc3, dat3⟩ := land.there
    have apart : a ∉ frs (X.env :: X.outer) := fun m => by
      obtain ⟨_, o', e', no⟩ := land.2.2.1.mem m
      rw [at3] at e'
      cases e'
      exact no _ dat3
    have aL : a ≠ X.env.locals := fun z => apart (List.mem_filterMap.mpr ⟨X.env, List.mem_cons_self, by rw [hf, z]⟩)
    have aF : a ∉ X.fs := fun m => by
      obtain ⟨e, m1, m2⟩ := List.mem_filterMap.mp m
      exact apart (List.mem_filterMap.mpr ⟨e, List.mem_cons_of_mem _ m1, m2⟩)
    have Su := I3.suite at3 dat3 free aL aF
    -- the name of a clause's class, and whether it is this exception's
    have ask : ∀ {x : Str} {c : Value} {p1 : Pos} {b : Bool} {Q : Bool → Shared → Prop} {E : Value → Shared → Prop}, Names X x c → PySem.W.exmOne X.K cls c = some b → Q b { s' with heap := h3 } →
        wpAny (model X.prog X.w) (X.A.mark (some (.ref a))) (eval (.Name x p1) X.env) (fun v s4 => v = c ∧ s4 = { s' with heap := h3 }) E { s' with heap := h3 } := fun {x c p1 b Q E} nm _ _ => by
      obtain ⟨gl, db, g | ⟨g, bo, nn⟩⟩ := nm
      · exact ld_glob (X := X.suite a ((a, oe) :: (X.pn ++ pins))) Su gl g ⟨rfl, rfl⟩ db
      · exact ld_blt (X := X.suite a ((a, oe) :: (X.pn ++ pins))) Su gl g bo ⟨rfl, rfl⟩ nn db
    have tyE : PySem.W.Looks (model X.prog X.w) h3 (typeOf (.ref a)) cls := fun A Q E s k q => wpAny_typeOf_ref (k _ _ at3) (by rw [zc3.1]; exact q)
    have walk : ∀ {hs' : List ExceptHandler} {l' : List (Value × (Addr → Value → Option Addr → TS))}, Cl X hs' l' → wMany X.K Wout D l' cls d σ1 H1 →
        wpAny (model X.prog X.w) X.A (handleBy (.ref a) X.env hs') (SP X pins D) X.xe { s' with heap := h3 } := by
      intro hs' l' cl
      induction cl with
      | done =>
        intro wsh
        refine wpAny_handleBy_nil ?_
        obtain ⟨k1, k2, k3, oe', vs', T, oT, ts', he, hz, hd, h1, hr⟩ := id land
        unfold PySem.passOn
        refine wpAny_bind (wpAny_field he hd h1 ?_)
        rw [if_neg (show ¬ ((Value.ref T == Value.none) = true) from by simp)]
        have away : wpAny (model X.prog X.w) X.A (setFlight (.ref a) X.env.frame) (fun _ s4 => wpAny (model X.prog X.w) X.A (throw (.ref a) : Sem Flow) (SP X pins D) X.xe s4) X.xe { s' with heap := h3 } := by
          rw [hf]
          refine HandSPX.setFlight_upZ land fun h4 fly up4 => wpAny_throw (tk _ _ ?_)
          exact ⟨a, B, s0, pins, σ1, H1, cls, d, rfl, I1, nb, up.trans up4, .inr (.inr (by rw [hs]; exact fly)), free, os, ag, wsh⟩
        first
          | exact wpAny_bind (wpAny_pure (wpAny_bind away))
          | exact wpAny_bind away
      | @plain x c ts b₀ suite p1 p2 hs2 l2 nm su more ih =>
        rintro ⟨b, eb, yes, no⟩
        refine wpAny_handleBy_cons (codeAny_handlers_test ?_) (by intro q; cases q)
        refine wpAny_mono (ask (Q := fun _ _ => True) nm eb trivial) (fun v s4 z => ?_) fun _ _ z => z
        obtain ⟨rfl, rfl⟩ := z
        refine (PySem.W.exm_one (M := model X.prog X.w) I3.kIn tyE eb).here ?_
        cases b with
        | false => exact ih (no rfl)
        | true =>
          refine codeAny_handlers_suite ?_
          refine HandSPX.lands_againZ land fun h4 land4 up4 => ?_
          have I4 : Inv X pins σ1 H1 { s' with heap := h4 } := I1.landed nb land4.1 (up.trans up4) os ag
          obtain ⟨oe4, _, at4, zc4, dat4⟩ := land4.there
          have Su4 := I4.suite at4 dat4 free aL aF
          refine wpAny_mono ((su a oe4 cls d (X.pn ++ pins) zc4 ⟨_, dat4⟩).run [] _ _ H1 _ Su4 (yes rfl a free)) (fun fl s6 q => ?_) (fun _ _ z => False.elim z)
          cases fl with
          | ret w => obtain ⟨v6, σ6, H6, J6, r6, q6⟩ := q; exact ⟨_, _, _, J6.unsuite I.ok, r6, q6⟩
          | next => obtain ⟨σ6, H6, J6, q6⟩ := q; exact ⟨_, _, J6.unsuite I.ok, q6⟩
          | brk => obtain ⟨σ6, H6, J6, q6⟩ := q; exact ⟨_, _, J6.unsuite I.ok, q6⟩
          | cont => obtain ⟨σ6, H6, J6, q6⟩ := q; exact ⟨_, _, J6.unsuite I.ok, q6⟩
      | @named x n c i ts b₀ suite p1 p2 hs2 l2 at_ lo nm su more ih =>
        rintro ⟨b, eb, yes, no⟩
        refine wpAny_handleBy_cons (codeAny_handlers_test ?_) (by intro q; cases q)
        refine wpAny_mono (ask (Q := fun _ _ => True) nm eb trivial) (fun v s4 z => ?_) fun _ _ z => z
        obtain ⟨rfl, rfl⟩ := z
        refine (PySem.W.exm_one (M := model X.prog X.w) I3.kIn tyE eb).here ?_
        cases b with
        | false => exact ih (no rfl)
        | true =>
          refine codeAny_handlers_suite_as ?_
          refine HandSPX.lands_againZ land fun h4 land4 up4 => ?_
          have I4 : Inv X pins σ1 H1 { s' with heap := h4 } := I1.landed nb land4.1 (up.trans up4) os ag
          obtain ⟨oe4, _, at4, zc4, dat4⟩ := land4.there
          have Su4 := I4.suite at4 dat4 free aL aF
          have loc : Loc X.env.scope n := .inl lo
          refine store_ok (X := X.suite a ((a, oe4) :: (X.pn ++ pins))) (v := .ref a) Su4 nd at_ loc rfl (fun s5 Su5 => ?_) (.inr lo)
          refine wpAny_mono ((su a oe4 cls d (X.pn ++ pins) zc4 ⟨_, dat4⟩).run [] s5 _ H1 _ Su5 (yes rfl a free)) (fun fl s6 q => ?_) (fun _ _ z => False.elim z)
          cases fl with
          | ret w => obtain ⟨v6, σ6, H6, J6, r6, q6⟩ := q; exact gone_ok (J6.unsuite I.ok) nd at_ lo fun s7 J7 => ⟨_, _, _, J7, r6, q6⟩
          | next => obtain ⟨σ6, H6, J6, q6⟩ := q; exact gone_ok (J6.unsuite I.ok) nd at_ lo fun s7 J7 => ⟨_, _, J7, q6⟩
          | brk => obtain ⟨σ6, H6, J6, q6⟩ := q; exact gone_ok (J6.unsuite I.ok) nd at_ lo fun s7 J7 => ⟨_, _, J7, q6⟩
          | cont => obtain ⟨σ6, H6, J6, q6⟩ := q; exact gone_ok (J6.unsuite I.ok) nd at_ lo fun s7 J7 => ⟨_, _, J7, q6⟩
    exact walk hc wish
  · cases fl with
    | ret w => obtain ⟨v, σ1, H1, J, r, q⟩ := got; exact ⟨v, σ1, H1, J.ofTry I.ok, r, q⟩
    | next => obtain ⟨σ1, H1, J, q⟩ := got; exact el.run pins s1 σ1 H1 D (J.ofTry I.ok) q
    | brk => obtain ⟨σ1, H1, J, q⟩ := got; exact ⟨σ1, H1, J.ofTry I.ok, q⟩
    | cont => obtain ⟨σ1, H1, J, q⟩ := got; exact ⟨σ1, H1, J.ofTry I.ok, q⟩
end
end K1

set_option Elab.async false
set_option linter.all false
set_option maxRecDepth 100000
set_option maxHeartbeats 1000000
namespace K1
open PySem PySem.Spec PyProof.Rows L2
abbrev sParts : Stmt := topS 26
abbrev sPartFrom : Stmt := topS 27
theorem scPartFrom : FnScope ["first", "near", "seen", "part", "waiting", "copy", "other"] ["first", "near", "seen"] (defScope sPartFrom) := ⟨rfl, rfl, rfl, by decide +kernel, rfl, by decide +kernel, by decide +kernel⟩
theorem scParts : FnScope ["many", "links", "near", "one", "other", "parts", "seen", "first"] ["many", "links"] (defScope sParts) := ⟨rfl, rfl, rfl, by decide +kernel, rfl, by decide +kernel, by decide +kernel⟩
/-- whole numbers, as values -/
def iv (ns : List Nat) : List V := ns.map fun (n : Nat) => V.int (n : Int)
/-- reached along the rows -/
inductive Reach (near : List (List Nat)) (a : Nat) : Nat → Prop
  | me : Reach near a a
  | step {u v : Nat} {row : List Nat} (h : Reach near a u) (hr : near[u]? = some row) (hv : v ∈ row) : Reach near a v
/-- the list of lists of neighbours -/
structure NearAt (H : Hp) (N : Addr) (as : List Addr) (near : List (List Nat)) : Prop where
  l : H N = some (.lst (as.map V.ref))
  n : as.length = near.length
  rows : ∀ (u : Nat) a row, as[u]? = some a → near[u]? = some row → H a = some (.lst (iv row))
  ok : ∀ row ∈ near, ∀ v ∈ row, v < near.length
/-- what is marked behind a walk -/
structure Marked (near : List (List Nat)) (old new : List Bool) (first : Nat) : Prop where
  len : new.length = old.length
  grow : ∀ v : Nat, old[v]? = some true → new[v]? = some true
  me : new[first]? = some true
  closed : ∀ (u v : Nat) row, new[u]? = some true → old[u]? = some false → near[u]? = some row → v ∈ row → new[v]? = some true
  reach : ∀ v : Nat, new[v]? = some true → old[v]? = some true ∨ Reach near first v
/-- .. on the way: pp done, ws waiting, c's row done up to some place -/
structure Way (near : List (List Nat)) (old cur : List Bool) (first : Nat) (pp ws : List Nat) (c : Option Nat) (dn : List Nat) : Prop where
  len : cur.length = old.length
  grow : ∀ v : Nat, old[v]? = some true → cur[v]? = some true
  me : cur[first]? = some true
  reach : ∀ v : Nat, cur[v]? = some true → old[v]? = some true ∨ Reach near first v
  nd : (pp ++ ws).Nodup
  all : ∀ v ∈ pp ++ ws, cur[v]? = some true ∧ Reach near first v
  closed : ∀ (u v : Nat) row, cur[u]? = some true → old[u]? = some false → near[u]? = some row → v ∈ row → cur[v]? = some true ∨ u ∈ ws ∨ some u = c
  done : ∀ v ∈ dn, cur[v]? = some true
theorem Way.mark {near : List (List Nat)} {old cur : List Bool} {first : Nat} {pp ws : List Nat} {c v : Nat} {dn row : List Nat} (h : Way near old cur first pp ws (some c) dn) (hr : Reach near first c) (hc : near[c]? = some row) (hv : v ∈ row) (hf : cur[v]? = some false) :
    Way near old (cur.set v true) first pp (ws ++ [v]) (some c) (dn ++ [v]) := by
  have hl : v < cur.length := (List.getElem?_eq_some_iff.mp hf).1
  have up : ∀ u : Nat, cur[u]? = some true → (cur.set v true)[u]? = some true := fun u e => by
    rw [List.getElem?_set]
    by_cases h : v = u
    · rw [if_pos h, if_pos (by omega)]
    · rw [if_neg h]; exact e
  have dn' : ∀ u : Nat, (cur.set v true)[u]? = some true → u = v ∨ cur[u]? = some true := fun u e => by
    rw [List.getElem?_set] at e
    by_cases h : v = u
    · exact .inl h.symm
    · rw [if_neg h] at e; exact .inr e
  have hv' : (cur.set v true)[v]? = some true := by rw [List.getElem?_set_self hl]
  refine ⟨by rw [List.length_set]; exact h.len, fun u e => up u (h.grow u e), up _ h.me, fun u e => ?_, ?_, fun u hu => ?_, fun u v' row' e1 e2 e3 e4 => ?_, fun u hu => ?_⟩
  · rcases dn' u e with rfl | e
    · exact .inr (.step hr hc hv)
    · exact h.reach u e
  · rw [← List.append_assoc]
    refine List.nodup_append.mpr ⟨h.nd, by simp, fun a ha b hb => ?_⟩
    have hb : b = v := by simpa using hb
    subst hb
    intro z
    subst z
    rw [(h.all _ ha).1] at hf
    cases hf
  · rw [← List.append_assoc] at hu
    rcases List.mem_append.mp hu with hu | hu
    · exact ⟨up _ (h.all u hu).1, (h.all u hu).2⟩
    · have hu : u = v := by simpa using hu
      subst hu
      exact ⟨hv', .step hr hc hv⟩
  · rcases dn' u e1 with rfl | e1
    · exact .inr (.inl (by simp))
    · rcases h.closed u v' row' e1 e2 e3 e4 with q | q | q
      · exact .inl (up _ q)
      · exact .inr (.inl (List.mem_append_left _ q))
      · exact .inr (.inr q)
  · rcases List.mem_append.mp hu with hu | hu
    · exact up _ (h.done u hu)
    · have hu : u = v := by simpa using hu
      subst hu
      exact hv'
theorem Way.skip {near : List (List Nat)} {old cur : List Bool} {first : Nat} {pp ws : List Nat} {c : Option Nat} {v : Nat} {dn : List Nat} (h : Way near old cur first pp ws c dn) (hf : cur[v]? = some true) : Way near old cur first pp ws c (dn ++ [v]) :=
  ⟨h.len, h.grow, h.me, h.reach, h.nd, h.all, h.closed, fun u hu => by
    rcases List.mem_append.mp hu with hu | hu
    · exact h.done u hu
    · have hu : u = v := by simpa using hu
      subst hu
      exact hf⟩
/-- the last one is taken off -/
theorem Way.pop {near : List (List Nat)} {old cur : List Bool} {first : Nat} {pp ws : List Nat} {c : Nat} (h : Way near old cur first pp (ws ++ [c]) none []) : Way near old cur first (pp ++ [c]) ws (some c) [] := by
  have pm : (pp ++ [c] ++ ws).Perm (pp ++ (ws ++ [c])) := by
    rw [List.append_assoc]
    exact (List.perm_append_comm).append_left pp
  refine ⟨h.len, h.grow, h.me, h.reach, pm.nodup_iff.mpr h.nd, fun v hv => h.all v (pm.mem_iff.mp hv), fun u v row e1 e2 e3 e4 => ?_, fun v hv => nomatch hv⟩
  rcases h.closed u v row e1 e2 e3 e4 with q | q | q
  · exact .inl q
  · rcases List.mem_append.mp q with q | q
    · exact .inr (.inl q)
    · have hu : u = c := by simpa using q
      exact .inr (.inr (by rw [hu]))
  · cases q
theorem Way.turn {near : List (List Nat)} {old cur : List Bool} {first : Nat} {pp ws : List Nat} {c : Nat} {row : List Nat} (h : Way near old cur first pp ws (some c) row) (hc : near[c]? = some row) : Way near old cur first pp ws none [] :=
  ⟨h.len, h.grow, h.me, h.reach, h.nd, h.all, fun u v row' e1 e2 e3 e4 => by
    rcases h.closed u v row' e1 e2 e3 e4 with q | q | q
    · exact .inl q
    · exact .inr (.inl q)
    · have hu : u = c := Option.some.inj q
      subst hu
      rw [hc] at e3
      have := Option.some.inj e3
      subst this
      exact .inl (h.done v e4), fun v hv => nomatch hv⟩
theorem Way.fin {near : List (List Nat)} {old cur : List Bool} {first : Nat} {pp : List Nat} (h : Way near old cur first pp [] none []) : Marked near old cur first := by
  refine ⟨h.len, h.grow, h.me, fun u v row e1 e2 e3 e4 => ?_, h.reach⟩
  rcases h.closed u v row e1 e2 e3 e4 with q | q | q
  · exact q
  · cases q
  · cases q
theorem Way.small {near : List (List Nat)} {old cur : List Bool} {first : Nat} {pp ws : List Nat} {c : Option Nat} {dn : List Nat} (h : Way near old cur first pp ws c dn) : pp.length + ws.length ≤ old.length := by
  have e := sub_len (l := pp ++ ws) (m := List.range old.length) h.nd (fun v hv => by
    rw [List.mem_range, ← h.len]
    exact (List.getElem?_eq_some_iff.mp (h.all v hv).1).1)
  rw [List.length_append, List.length_range] at e
  exact e
theorem ixN_n {n j : Nat} (hj : j < n) : ixN n (j : Int) = some j := by
  unfold ixN
  rw [if_pos (by omega), if_pos (by omega)]
  rfl
theorem while_ex {c : TT} {tb : TS} {D : L2.Ends} {σ : L2.St} {H : Hp} (Pv : L2.St → Hp → Prop) (μ : L2.St → Hp → Nat) (h0 : Pv σ H)
    (hs : ∀ σ H, Pv σ H → c σ H fun b H1 => if b = true then tb { D with nx := fun σ' H' => Pv σ' H' ∧ μ σ' H' < μ σ H, ct := fun σ' H' => Pv σ' H' ∧ μ σ' H' < μ σ H, bk := D.nx } σ H1 else D.nx σ H1)
    (mono : ∀ σ H Q Q', (∀ b H1, Q b H1 → Q' b H1) → c σ H Q → c σ H Q') : ∃ W : Nat → L2.St → Hp → Prop, (∃ m, W m σ H) ∧ ∀ m σ H, W m σ H →
    c σ H fun b H1 => if b = true then ∃ N : L2.St → Hp → Prop, (∀ σ' H', N σ' H' → ∃ m', m' < m ∧ W m' σ' H') ∧ tb { D with nx := N, ct := N, bk := D.nx } σ H1 else D.nx σ H1 := while_by Pv μ h0 hs mono
def lenAt (H : Hp) (a : Addr) : Nat := match H a with
  | some (.lst xs) => xs.length
  | _ => 0
theorem lenAt_of {H : Hp} {a : Addr} {xs : List V} (h : H a = some (.lst xs)) : lenAt H a = xs.length := by
  unfold lenAt
  rw [h]
theorem Way.start {near : List (List Nat)} {old : List Bool} {first : Nat} (hf : old[first]? = some false) : Way near old (old.set first true) first [] [first] none [] := by
  have hl : first < old.length := (List.getElem?_eq_some_iff.mp hf).1
  have up : ∀ u : Nat, old[u]? = some true → (old.set first true)[u]? = some true := fun u e => by
    rw [List.getElem?_set]
    by_cases h : first = u
    · rw [if_pos h, if_pos (by omega)]
    · rw [if_neg h]; exact e
  have dn' : ∀ u : Nat, (old.set first true)[u]? = some true → u = first ∨ old[u]? = some true := fun u e => by
    rw [List.getElem?_set] at e
    by_cases h : first = u
    · exact .inl h.symm
    · rw [if_neg h] at e; exact .inr e
  refine ⟨List.length_set .., up, List.getElem?_set_self hl, fun v e => ?_, by simp, fun v hv => ?_, fun u v row e1 e2 _ _ => ?_, fun v hv => nomatch hv⟩
  · rcases dn' v e with rfl | e
    · exact .inr .me
    · exact .inl e
  · have hv : v = first := by simpa using hv
    subst hv
    exact ⟨List.getElem?_set_self hl, .me⟩
  · rcases dn' u e1 with rfl | e1
    · exact .inr (.inl (by simp))
    · rw [e1] at e2; cases e2
section
variable {P : Program} {w : World} {K : PySem.W.Frag} {mg : Str → Option Value} {base : Heap}
def spPartFrom : Sp := fun vs H Q _ => ∃ (f : Nat) (N S : Addr) (as : List Addr) (near : List (List Nat)) (old : List Bool), vs = [.int (f : Int), .ref N, .ref S] ∧ NearAt H N as near ∧ H S = some (.lst (old.map V.bl)) ∧ old.length = near.length ∧ near.length ≤ 900 ∧ old[f]? = some false ∧ S ≠ N ∧ (∀ a ∈ as, a ≠ S) ∧
  ∀ (L : Addr) (new : List Bool) (H' : Hp), Marked near old new f → H' S = some (.lst (new.map V.bl)) → (∀ c o, c ≠ S → H c = some o → H' c = some o) → H L = none → L ≠ S → (∃ ns : List Int, H' L = some (.lst (ns.map V.int))) → Q (.ref L) H'
theorem ok_partFrom {f : Addr} {fd : FuncData} (F : Fun K "_part_from" "_part_from" sPartFrom f fd) (Bt : Bi mg) : FnOk P w K mg base CX0 1 f fd ["first", "near", "seen"] spPartFrom := by
  refine F.ok scPartFrom (fun vs H Q E h => ?_) (fun cdv A outer s H vs Q E hr h => ?_)
  · obtain ⟨f, N, S, as, near, old, rfl, _⟩ := h
    rfl
  · obtain ⟨f, N, S, as, near, old, rfl, hN, hS, hl, h9, hf, nSN, nSa, q⟩ := h
    refine ⟨_, pss_cons (ps_set (i := 3) scPartFrom.nd rfl (.inl rfl) (pe_lst pa_nil))
      (pss_cons (ps_set (i := 4) scPartFrom.nd rfl (.inl rfl) (pe_lst (pa_cons (pv 0) pa_nil)))
      (pss_cons (ps_asg pe_bl (pg_sub (pv 2) (pv 0) set_list))
      (pss_cons (ps_while PassesOwn.never (pt_truth (pv 4) (by intro _; rfl))
        (pss_cons (ps_set (i := 5) scPartFrom.nd rfl (.inl rfl) (pe_bm0 PySem.F.plainAttrs_list PySem.F.slot_list_pop PySem.F.type_list_pop mt_pop (pv 4)))
        (pss_cons (ps_expr (pe_bm PySem.F.plainAttrs_list PySem.F.slot_list_append PySem.F.type_list_append mt_append (pv 3) (pa_cons (pv 5) pa_nil)))
        (pss_one (ps_for PassesOwn.never rfl (pi_list (pe_ix ix_list (pv 1) (pv 5) (fun _ _ => rfl))) (pg_name (i := 6) scPartFrom.nd rfl (.inl rfl))
          (pss_one (ps_if (pt_not (pt_truth (pe_ix ix_list (pv 2) (pv 6) (fun _ _ => rfl)) (by intro _; rfl))) (pss_cons (ps_asg pe_bl (pg_sub (pv 2) (pv 6) set_list))
            (pss_one (ps_expr (pe_bm PySem.F.plainAttrs_list PySem.F.slot_list_append PySem.F.type_list_append mt_append (pv 4) (pa_cons (pv 6) pa_nil))))) pss_nil)))))))
      (pss_one (ps_ret (pe_callB cr_sortedI (by rfl) Bt.sorted boot_sorted (pa_cons (pv 3) pa_nil))))))), ?_⟩
    refine ⟨Nat.zero_le _, fun Pt nP => ?_⟩
    have s1 : Same H (upd H Pt (HO.lst [])) := same_upd nP
    have e1 : (upd H Pt (HO.lst [])) Pt = some (HO.lst []) := upd_same
    generalize (upd H Pt (HO.lst [])) = H1 at s1 e1 ⊢
    refine ⟨_, rfl, Nat.le_of_lt (small1000 (n := 1) (by decide)), fun W nW => ?_⟩
    have s2 : Same H1 (upd H1 W (HO.lst [V.int (f : Int)])) := same_upd nW
    have e2 : (upd H1 W (HO.lst [V.int (f : Int)])) W = some (HO.lst [V.int (f : Int)]) := upd_same
    generalize (upd H1 W (HO.lst [V.int (f : Int)])) = H2 at s2 e2 ⊢
    have e1' := s2 _ _ e1
    have hS2 := s2 _ _ (s1 _ _ hS)
    have nPW : Pt ≠ W := ne_of_none e1 nW
    have nSP : S ≠ Pt := ne_of_none hS nP
    have nSW : S ≠ W := ne_of_none (s1 _ _ hS) nW
    have hfl : f < old.length := (List.getElem?_eq_some_iff.mp hf).1
    refine ⟨_, rfl, _, rfl, S, _, f, f, rfl, rfl, hS2, ixN_n (by rw [List.length_map]; exact hfl), ?_⟩
    rw [show (old.map V.bl).set f (V.bl true) = (old.set f true).map V.bl from List.map_set.symm]
    -- the state of the walk
    show ∃ W : Nat → L2.St → Hp → Prop, _
    refine while_ex (c := fun σ H Q => tVar 4 σ H fun x H' => ∃ k, TruV K x H' k ∧ Q k H') (H := upd H2 S (.lst ((old.set f true).map V.bl))) (σ := [some (.int (f : Int)), some (.ref N), some (.ref S), some (.ref Pt), some (.ref W), none, none]) (fun σ H' => ∃ (v5 v6 : Option V) (cur : List Bool) (pp ws : List Nat), σ = [some (.int (f : Int)), some (.ref N), some (.ref S), some (.ref Pt), some (.ref W), v5, v6] ∧ Way near old cur f pp ws none [] ∧ H' S = some (.lst (cur.map V.bl)) ∧ H' Pt = some (.lst (iv pp)) ∧ H' W = some (.lst (iv ws)) ∧
      ∀ c o, c ≠ S → H c = some o → H' c = some o) (fun σ H' => near.length - lenAt H' Pt) ⟨none, none, old.set f true, [], [f], rfl, Way.start hf, upd_same, by rw [upd_ne nSP.symm]; exact e1', by rw [upd_ne nSW.symm]; exact e2, fun c o n e => by rw [upd_ne n]; exact s2 _ _ (s1 _ _ e)⟩ ?_
      (fun σ H Q Q' hq h => by obtain ⟨x, hx, k, hk, q⟩ := h; exact ⟨x, hx, k, hk, hq _ _ q⟩)
    rintro σ H' ⟨v5, v6, cur, pp, ws, rfl, hw, gS, gP, gW, gk⟩
    refine ⟨_, rfl, _, .inl ⟨_, SqL.of gW, rfl⟩, ?_⟩
    rcases List.eq_nil_or_concat ws with rfl | ⟨ws', c, rfl⟩
    · -- the end
      refine ⟨_, rfl, Pt, pp.map fun (n : Nat) => (n : Int), rfl, SqL.of (by rw [List.map_map]; exact gP), fun ns' L pm srt nL => ?_⟩
      have nLS : L ≠ S := (ne_of_none gS nL).symm
      have hL0 : H L = none := by
        cases e : H L with
        | none => rfl
        | some o => rw [gk L o nLS e] at nL; cases nL
      refine q L cur _ hw.fin ?_ (fun c o n e => ?_) hL0 nLS ⟨ns', upd_same⟩
      · rw [upd_ne nLS.symm]; exact gS
      · rw [upd_ne (ne_of_none (gk c o n e) nL)]; exact gk c o n e
    · rw [List.concat_eq_append] at hw gW ⊢
      have hlen := hw.small
      have hemp : (!(iv (ws' ++ [c])).isEmpty) = true := by
        unfold iv
        rw [List.map_append]
        simp
      show if (!(iv (ws' ++ [c])).isEmpty) = true then _ else _
      rw [if_pos hemp]
      have hlast : (iv (ws' ++ [c]))[(iv (ws' ++ [c])).length - 1]? = some (V.int (c : Int)) := by
        unfold iv
        rw [List.map_append, List.length_append]
        simp
      have hdrop : (iv (ws' ++ [c])).dropLast = iv ws' := by
        unfold iv
        rw [List.map_append]
        simp
      refine ⟨_, rfl, .inl ⟨rfl, _, SqL.of gW⟩, W, _, _, rfl, rfl, gW, hlast, ?_⟩
      rw [hdrop]
      have h1 : (upd H' W (.lst (iv ws'))) W = some (.lst (iv ws')) := upd_same
      have h2 : (upd H' W (.lst (iv ws'))) Pt = some (.lst (iv pp)) := by rw [upd_ne nPW]; exact gP
      have h3 : (upd H' W (.lst (iv ws'))) S = some (.lst (cur.map V.bl)) := by rw [upd_ne nSW]; exact gS
      have h4 : ∀ c o, c ≠ S → H c = some o → (upd H' W (.lst (iv ws'))) c = some o := fun c o n e => by rw [upd_ne (ne_of_none (s1 _ _ e) nW)]; exact gk c o n e
      generalize (upd H' W (.lst (iv ws'))) = G1 at h1 h2 h3 h4 ⊢
      have hpl : (iv pp).length = pp.length := List.length_map ..
      have hwl : (iv ws').length = ws'.length := List.length_map ..
      rw [List.length_append, List.length_singleton] at hlen
      refine ⟨_, rfl, .inl ⟨rfl, _, SqL.of h2⟩, _, rfl, Pt, _, _, rfl, rfl, h2, small1000 (by omega), ?_⟩
      have hcc := hw.all c (by simp)
      have hcn : c < near.length := by
        rw [← hl, ← hw.len]
        exact (List.getElem?_eq_some_iff.mp hcc.1).1
      obtain ⟨row, hrow⟩ : ∃ row, near[c]? = some row := ⟨_, List.getElem?_eq_getElem hcn⟩
      obtain ⟨a, hac⟩ : ∃ a, as[c]? = some a := ⟨_, List.getElem?_eq_getElem (by rw [hN.n]; exact hcn)⟩
      have hapc : iv pp ++ [V.int (c : Int)] = iv (pp ++ [c]) := by
        unfold iv
        rw [List.map_append]
        rfl
      rw [hapc]
      have k2 : ∀ c' o, c' ≠ S → H c' = some o → (upd G1 Pt (.lst (iv (pp ++ [c])))) c' = some o := fun c' o n e => by rw [upd_ne (ne_of_none e nP)]; exact h4 c' o n e
      have g1 : (upd G1 Pt (.lst (iv (pp ++ [c])))) Pt = some (.lst (iv (pp ++ [c]))) := upd_same
      have g2 : (upd G1 Pt (.lst (iv (pp ++ [c])))) W = some (.lst (iv ws')) := by rw [upd_ne nPW.symm]; exact h1
      have g3 : (upd G1 Pt (.lst (iv (pp ++ [c])))) S = some (.lst (cur.map V.bl)) := by rw [upd_ne nSP]; exact h3
      generalize (upd G1 Pt (.lst (iv (pp ++ [c])))) = G2 at k2 g1 g2 g3 ⊢
      have gN := k2 _ _ nSN.symm hN.l
      have gA : G2 a = some (.lst (iv row)) := k2 _ _ (nSa a (List.mem_of_getElem? hac)) (hN.rows c a row hac hrow)
      refine ⟨_, rfl, _, rfl, N, _, c, .ref a, rfl, rfl, SqL.of gN, at_of (j := c) rfl (by rw [List.getElem?_map, hac]; rfl), a, rfl, ⟨_, SqL.of gA⟩, ?_⟩
      have hw1 := hw.pop
      refine for_list (K := K) (a := a) (xs := iv row) (fun i σ H'' => ∃ (v6 : Option V) (cur2 : List Bool) (ws2 : List Nat), σ = [some (.int (f : Int)), some (.ref N), some (.ref S), some (.ref Pt), some (.ref W), some (.int (c : Int)), v6] ∧ Way near old cur2 f (pp ++ [c]) ws2 (some c) (row.take i) ∧ H'' S = some (.lst (cur2.map V.bl)) ∧ H'' Pt = some (.lst (iv (pp ++ [c]))) ∧ H'' W = some (.lst (iv ws2)) ∧
        ∀ c o, c ≠ S → H c = some o → H'' c = some o) ⟨_, cur, ws', rfl, hw1, g3, g1, g2, k2⟩ (fun i σ H'' _ q => ?_) ?_ ?_
      · obtain ⟨v6, cur2, ws2, _, _, _, _, _, kk⟩ := q
        exact SqL.of (kk _ _ (nSa a (List.mem_of_getElem? hac)) (hN.rows c a row hac hrow))
      · rintro i x σ H'' hx ⟨v6, cur2, ws2, rfl, hw2, j3, j1, j2, kk⟩
        obtain ⟨v, hv, rfl⟩ : ∃ v, row[i]? = some v ∧ x = V.int ((v : Nat) : Int) := by
          unfold iv at hx
          rw [List.getElem?_map] at hx
          cases hj : row[i]? with
          | none => rw [hj] at hx; cases hx
          | some v => rw [hj] at hx; exact ⟨v, rfl, (Option.some.inj hx).symm⟩
        have hvm := List.mem_of_getElem? hv
        have hvn : v < cur2.length := by
          rw [hw2.len, hl]
          exact hN.ok row (List.mem_of_getElem? hrow) v hvm
        obtain ⟨b, hb⟩ : ∃ b, cur2[v]? = some b := ⟨_, List.getElem?_eq_getElem hvn⟩
        have htk : row.take (i + 1) = row.take i ++ [v] := by rw [List.take_add_one, hv]; rfl
        refine ⟨_, rfl, _, rfl, S, _, v, .bl b, rfl, rfl, SqL.of j3, at_of (j := v) rfl (by rw [List.getElem?_map, hb]; rfl), b, rfl, ?_⟩
        cases b with
        | true =>
          show if (!true) = true then _ else _
          rw [if_neg (by decide)]
          exact ⟨_, cur2, ws2, rfl, by rw [htk]; exact hw2.skip hb, j3, j1, j2, kk⟩
        | false =>
          show if (!false) = true then _ else _
          rw [if_pos (by decide)]
          refine ⟨_, rfl, _, rfl, S, _, v, v, rfl, rfl, j3, ixN_n (by rw [List.length_map]; exact hvn), ?_⟩
          rw [show (cur2.map V.bl).set v (V.bl true) = (cur2.set v true).map V.bl from List.map_set.symm]
          have hw3 := hw2.mark hcc.2 hrow hvm hb
          have hsm := hw2.small
          have hwl2 : (iv ws2).length = ws2.length := List.length_map ..
          refine ⟨_, rfl, .inl ⟨rfl, _, SqL.of (by rw [upd_ne nSW.symm]; exact j2)⟩, _, rfl, W, _, _, rfl, rfl, by rw [upd_ne nSW.symm]; exact j2, small1000 (by omega), ?_⟩
          have hap : iv ws2 ++ [V.int (v : Int)] = iv (ws2 ++ [v]) := by
            unfold iv
            rw [List.map_append]
            rfl
          refine ⟨_, cur2.set v true, ws2 ++ [v], rfl, by rw [htk]; exact hw3, ?_, ?_, by rw [hap]; exact upd_same, fun c' o n e => ?_⟩
          · rw [upd_ne nSW]; exact upd_same
          · rw [upd_ne nPW, upd_ne nSP.symm]; exact j1
          · rw [upd_ne (ne_of_none (s1 _ _ e) nW), upd_ne n]; exact kk c' o n e
      · rintro σ H'' ⟨v6, cur2, ws2, rfl, hw2, j3, j1, j2, kk⟩
        have er : (iv row).length = row.length := List.length_map ..
        rw [er, List.take_length] at hw2
        refine ⟨⟨_, _, cur2, pp ++ [c], ws2, rfl, hw2.turn hrow, j3, j1, j2, kk⟩, ?_⟩
        rw [lenAt_of j1, lenAt_of gP]
        have e1 : (iv (pp ++ [c])).length = pp.length + 1 := by
          unfold iv
          rw [List.length_map, List.length_append]
          rfl
        rw [e1, hpl]
        omega
end
end K1

set_option Elab.async false
set_option linter.all false
set_option maxRecDepth 100000
set_option maxHeartbeats 1000000
namespace K1
open PySem PySem.Spec PyProof.Rows L2
theorem scParts2 : FnScope ["many", "links", "near", "one", "other", "parts", "seen", "first", "_"] ["many", "links"] (defScope sParts) := ⟨rfl, rfl, rfl, by decide +kernel, rfl, by decide +kernel, by decide +kernel⟩
theorem pi_two {X : Cx} {tg e : Expr} {w1 w2 : TI} (h1 : PI X tg e w1) (h2 : PI X tg e w2) : PI X tg e (fun σ H R => w1 σ H R ∨ w2 σ H R) :=
  ⟨fun pins s σ H R I h => h.elim (fun h => h1.run pins s σ H R I h) (fun h => h2.run pins s σ H R I h)⟩
/-- the rows of neighbours of some links -/
def Rows (n : Nat) (ls : List (Nat × Nat)) (near : List (List Nat)) : Prop := near.length = n ∧ ∀ (u : Nat) row, near[u]? = some row → ∀ v, v ∈ row ↔ ((u, v) ∈ ls ∨ (v, u) ∈ ls)
/-- one row gets one more -/
def addR (near : List (List Nat)) (a b : Nat) : List (List Nat) := near.set a ((near[a]?.getD []) ++ [b])
theorem addR_len (near : List (List Nat)) (a b : Nat) : (addR near a b).length = near.length := List.length_set ..
theorem addR_at {near : List (List Nat)} {a b u : Nat} {row : List Nat} (h : (addR near a b)[u]? = some row) : ∃ r0, near[u]? = some r0 ∧ row = (if u = a then r0 ++ [b] else r0) := by
  unfold addR at h
  rw [List.getElem?_set] at h
  by_cases e : a = u
  · subst e
    rw [if_pos rfl] at h
    by_cases l : a < near.length
    · rw [if_pos l] at h
      have h := Option.some.inj h
      refine ⟨_, List.getElem?_eq_getElem l, ?_⟩
      rw [if_pos rfl, ← h, List.getElem?_eq_getElem l]
      rfl
    · rw [if_neg l] at h; cases h
  · rw [if_neg e] at h
    exact ⟨row, h, by rw [if_neg (fun z => e z.symm)]⟩
theorem Rows.add {n : Nat} {ls : List (Nat × Nat)} {near : List (List Nat)} {a b : Nat} (h : Rows n ls near) : Rows n (ls ++ [(a, b)]) (addR (addR near a b) b a) := by
  refine ⟨by rw [addR_len, addR_len]; exact h.1, fun u row hu v => ?_⟩
  obtain ⟨r1, h1, e1⟩ := addR_at hu
  obtain ⟨r0, h0, e0⟩ := addR_at h1
  have q := h.2 u r0 h0 v
  subst e1 e0
  by_cases hb : u = b <;> by_cases ha : u = a
  · subst hb
    subst ha
    simp [q]
    try grind
  · subst hb
    simp [q, ha]
    try grind
  · subst ha
    simp [q, hb]
    try grind
  · simp [q, ha, hb]
    try grind
/-- a link's tuple -/
def LkAt (H : Hp) (x : V) (p : Nat × Nat) : Prop := ∃ (t o1 o2 : Addr) (e1 e2 : Int), x = .ref t ∧ H t = some (.tup [.ref o1, .ref o2]) ∧ H o1 = some (.tup [.int (p.1 : Int), .int e1]) ∧ H o2 = some (.tup [.int (p.2 : Int), .int e2])
theorem LkAt.kept {H H' : Hp} {x : V} {p : Nat × Nat} (h : LkAt H x p) (e : ∀ a xs, H a = some (.tup xs) → H' a = some (.tup xs)) : LkAt H' x p := by
  obtain ⟨t, o1, o2, e1, e2, hx, h1, h2, h3⟩ := h
  exact ⟨t, o1, o2, e1, e2, hx, e _ _ h1, e _ _ h2, e _ _ h3⟩
theorem NearAt.add {H : Hp} {N aa : Addr} {as : List Addr} {near : List (List Nat)} {a b : Nat} {row : List Nat} (h : NearAt H N as near) (hn : as.Nodup) (ha : as[a]? = some aa) (hr : near[a]? = some row) (nN : ∀ c ∈ as, c ≠ N) (hb : b < near.length) :
    NearAt (upd H aa (.lst (iv row ++ [V.int (b : Int)]))) N as (addR near a b) := by
  have hal : a < near.length := (List.getElem?_eq_some_iff.mp hr).1
  refine ⟨by rw [upd_ne (nN aa (List.mem_of_getElem? ha)).symm]; exact h.l, by rw [addR_len]; exact h.n, fun u c r hc hu => ?_, fun r hr2 v hv => ?_⟩
  · obtain ⟨r0, h0, e⟩ := addR_at hu
    by_cases hua : u = a
    · subst hua
      rw [ha] at hc
      have hc := Option.some.inj hc
      subst hc
      rw [hr] at h0
      have h0 := Option.some.inj h0
      subst h0
      rw [upd_same, e, if_pos rfl]
      unfold iv
      rw [List.map_append]
      rfl
    · have hne : c ≠ aa := fun z => by
        subst z
        exact hua (nd_ix hn hc ha)
      rw [upd_ne hne, e, if_neg hua]
      exact h.rows u c r0 hc h0
  · rw [addR_len]
    obtain ⟨u, hu⟩ := List.getElem?_of_mem hr2
    obtain ⟨r0, h0, e⟩ := addR_at hu
    have ok0 := h.ok r0 (List.mem_of_getElem? h0)
    by_cases hua : u = a
    · rw [e, if_pos hua] at hv
      rcases List.mem_append.mp hv with hv | hv
      · exact ok0 v hv
      · have : v = b := by simpa using hv
        rw [this]; exact hb
    · rw [e, if_neg hua] at hv
      exact ok0 v hv
theorem addR_short {near : List (List Nat)} {a b m : Nat} (h : ∀ row ∈ near, row.length ≤ m) : ∀ row ∈ addR near a b, row.length ≤ m + 1 := fun row hr => by
  obtain ⟨u, hu⟩ := List.getElem?_of_mem hr
  obtain ⟨r0, h0, e⟩ := addR_at hu
  have := h r0 (List.mem_of_getElem? h0)
  rw [e]
  split
  · rw [List.length_append, List.length_singleton]; omega
  · omega
theorem NearAt.kept {H H' : Hp} {N : Addr} {as : List Addr} {near : List (List Nat)} (h : NearAt H N as near) (hN : ∀ o, H N = some o → H' N = some o) (ha : ∀ a ∈ as, ∀ o, H a = some o → H' a = some o) : NearAt H' N as near :=
  ⟨hN _ h.l, h.n, fun u a row h1 h2 => ha a (List.mem_of_getElem? h1) _ (h.rows u a row h1 h2), h.ok⟩
theorem flat_one (x : V) : ∀ m : Nat, (List.replicate m [x]).flatten = List.replicate m x
  | 0 => rfl
  | m + 1 => by
    rw [List.replicate_succ, List.flatten_cons, flat_one x m, List.replicate_succ]
    rfl
/-- the state of the walk over the copies -/
def Pst (n : Nat) (near : List (List Nat)) (i : Nat) (cur : List Bool) (k : Nat) : Prop :=
  (i = 0 ∧ (∀ v : Nat, cur[v]? ≠ some true) ∧ k = 0) ∨ (0 < i ∧ 1 ≤ k ∧ (∀ (u v : Nat) row, cur[u]? = some true → near[u]? = some row → v ∈ row → cur[v]? = some true) ∧ (∀ v : Nat, v < i → cur[v]? = some true) ∧
    (k = 1 → ∀ v : Nat, cur[v]? = some true → Reach near 0 v) ∧ ((∀ v < n, Reach near 0 v) → k = 1))
theorem closed_reach {near : List (List Nat)} {cur : List Bool} (h0 : cur[0]? = some true) (hc : ∀ (u v : Nat) row, cur[u]? = some true → near[u]? = some row → v ∈ row → cur[v]? = some true) {v : Nat} (h : Reach near 0 v) : cur[v]? = some true := by
  induction h with
  | me => exact h0
  | step _ hr hv ih => exact hc _ _ _ ih hr hv
theorem Pst.skip {n : Nat} {near : List (List Nat)} {i k : Nat} {cur : List Bool} (h : Pst n near i cur k) (hb : cur[i]? = some true) : Pst n near (i + 1) cur k := by
  rcases h with ⟨rfl, h2, rfl⟩ | ⟨h1, h2, h3, h4, h5, h6⟩
  · exact absurd hb (h2 0)
  · refine .inr ⟨by omega, h2, h3, fun v hv => ?_, h5, h6⟩
    by_cases e : v = i
    · rw [e]; exact hb
    · exact h4 v (by omega)
theorem Pst.walk {n : Nat} {near : List (List Nat)} {i k : Nat} {cur new : List Bool} (h : Pst n near i cur k) (hi : i < n) (hb : cur[i]? = some false) (m : Marked near cur new i) (hl : near.length = n) (hcl : cur.length = n) : Pst n near (i + 1) new (k + 1) := by
  have hcl' : ∀ (u v : Nat) row, (∀ (u v : Nat) row, cur[u]? = some true → near[u]? = some row → v ∈ row → cur[v]? = some true) → new[u]? = some true → near[u]? = some row → v ∈ row → new[v]? = some true := fun u v row hc hu hr hv => by
    have hul : u < cur.length := by rw [← m.len]; exact (List.getElem?_eq_some_iff.mp hu).1
    cases hcu : cur[u] with
    | true =>
      have e : cur[u]? = some true := by rw [List.getElem?_eq_getElem hul, hcu]
      exact m.grow v (hc u v row e hr hv)
    | false =>
      have e : cur[u]? = some false := by rw [List.getElem?_eq_getElem hul, hcu]
      exact m.closed u v row hu e hr hv
  rcases h with ⟨rfl, h2, rfl⟩ | ⟨h1, h2, h3, h4, h5, h6⟩
  · refine .inr ⟨by omega, by omega, fun u v row => hcl' u v row (fun u v row e => absurd e (h2 u)), fun v hv => ?_, fun _ v hv => ?_, fun _ => rfl⟩
    · have : v = 0 := by omega
      rw [this]; exact m.me
    · rcases m.reach v hv with e | e
      · exact absurd e (h2 v)
      · exact e
  · refine .inr ⟨by omega, by omega, fun u v row => hcl' u v row h3, fun v hv => ?_, fun z => by omega, fun z => ?_⟩
    · by_cases e : v = i
      · rw [e]; exact m.me
      · exact m.grow v (h4 v (by omega))
    · have := closed_reach (h4 0 h1) h3 (z i hi)
      rw [hb] at this
      cases this
theorem Pst.fin {n : Nat} {near : List (List Nat)} {k : Nat} {cur : List Bool} (h : Pst n near n cur k) (hn : 1 ≤ n) : k = 1 ↔ ∀ v < n, Reach near 0 v := by
  rcases h with ⟨h1, _, _⟩ | ⟨h1, h2, h3, h4, h5, h6⟩
  · omega
  · exact ⟨fun e v hv => h5 e v (h4 v hv), h6⟩
section
variable {P : Program} {w : World} {K : PySem.W.Frag} {mg : Str → Option Value} {base : Heap}
def spParts : Sp := fun vs H Q _ => ∃ (n : Nat) (Lk : Addr) (xs : List V) (ls : List (Nat × Nat)), vs = [.int (n : Int), .ref Lk] ∧ (H Lk = some (.lst xs) ∨ H Lk = some (.tup xs)) ∧ xs.length = ls.length ∧ (∀ (i : Nat) x p, xs[i]? = some x → ls[i]? = some p → LkAt H x p) ∧ (∀ p ∈ ls, p.1 < n ∧ p.2 < n) ∧ 1 ≤ n ∧ n ≤ 900 ∧ ls.length ≤ 400 ∧
  ∀ (R : Addr) (ps : List V) (near : List (List Nat)) (H' : Hp), H R = none → H' R = some (.lst ps) → Rows n ls near → (ps.length = 1 ↔ ∀ v < n, Reach near 0 v) → Same H H' → Q (.ref R) H'
theorem ok_parts {f fP : Addr} {fd fdP : FuncData} (F : Fun K "parts_of" "parts_of" sParts f fd) (dP : D K mg "_part_from" sPartFrom ["first", "near", "seen"] fP fdP) (Bt : Bi mg) (mr : mg "range" = none) : FnOk P w K mg base CX0 2 f fd ["many", "links"] spParts := by
  have GP : FnOk P w K mg base CX0 1 fP fdP ["first", "near", "seen"] spPartFrom := ok_partFrom dP.F Bt
  refine F.ok scParts2 (fun vs H Q E h => ?_) (fun cdv A outer s H vs Q E hr h => ?_)
  · obtain ⟨n, Lk, xs, ls, rfl, _⟩ := h
    rfl
  · obtain ⟨n, Lk, xs, ls, rfl, hL, hxl, hlk, hlt, n1, n9, hl4, q⟩ := h
    refine ⟨_, pss_cons (ps_setLc (i := 2) (own := [("_", 8)]) (g := gName 8) (tt := tYes) rfl scParts2.nd rfl rfl (sw_true rfl rfl rfl (by decide +kernel)) (pi_range1 rfl mr (pa_cons (pv 0) pa_nil))
        (blkOk_by (own := [("_", 8)]) (N := ["many", "links", "near", "one", "other", "parts", "seen", "first", "_"]) (sc := defScope sParts) (by decide +kernel)) (fun _ _ _ _ _ => pg_name (i := 8) scParts2.nd rfl (Or.inl rfl)) (fun _ _ _ _ _ => pts_nil) (fun _ _ _ _ _ => pe_lst pa_nil))
      (pss_cons (ps_for PassesOwn.never rfl (pi_two (pi_list (pv 1)) (pi_tup (pv 1))) (pg_tup rfl (pgs_cons (pg_name (i := 3) scParts2.nd rfl (.inl rfl)) (pgs_cons (pg_name (i := 4) scParts2.nd rfl (.inl rfl)) pgs_nil)))
        (pss_cons (ps_expr (pe_bm PySem.F.plainAttrs_list PySem.F.slot_list_append PySem.F.type_list_append mt_append (pe_ix ix_list (pv 2) (pe_ix ix_tup (pv 3) pe_int (fun _ _ => rfl)) (fun _ _ => rfl)) (pa_cons (pe_ix ix_tup (pv 4) pe_int (fun _ _ => rfl)) pa_nil)))
        (pss_one (ps_expr (pe_bm PySem.F.plainAttrs_list PySem.F.slot_list_append PySem.F.type_list_append mt_append (pe_ix ix_list (pv 2) (pe_ix ix_tup (pv 4) pe_int (fun _ _ => rfl)) (fun _ _ => rfl)) (pa_cons (pe_ix ix_tup (pv 3) pe_int (fun _ _ => rfl)) pa_nil))))))
      (pss_cons (ps_set (i := 5) scParts2.nd rfl (.inl rfl) (pe_lst pa_nil))
      (pss_cons (ps_set (i := 6) scParts2.nd rfl (.inl rfl) (pe_op op_rep (pe_lst (pa_cons pe_bl pa_nil)) (pv 0)))
      (pss_cons (ps_for PassesOwn.never rfl (pi_range1 rfl mr (pa_cons (pv 0) pa_nil)) (pg_name (i := 7) scParts2.nd rfl (.inl rfl))
        (pss_one (ps_if (pt_not (pt_truth (pe_ix ix_list (pv 6) (pv 7) (fun _ _ => rfl)) (by intro _; rfl)))
          (pss_one (ps_expr (pe_bm PySem.F.plainAttrs_list PySem.F.slot_list_append PySem.F.type_list_append mt_append (pv 5) (pa_cons (pe_call GP hr (by rfl) dP.m dP.F.kp dP.b .nil pass0 (pa_cons (pv 7) (pa_cons (pv 2) (pa_cons (pv 6) pa_nil)))) pa_nil)))) pss_nil)))
      (pss_one (ps_ret (pv 5))))))), ?_⟩
    -- near
    refine ⟨_, rfl, (n : Int), rfl, by omega, by omega, ?_⟩
    intro N nN
    refine lc_range (lo := 0) (n := (n : Int).toNat) (fun i H' => ∃ as : List Addr, as.length = i ∧ as.Nodup ∧ H' N = some (.lst (as.map V.ref)) ∧ (∀ a ∈ as, a ≠ N ∧ H a = none ∧ H' a = some (.lst [])) ∧ Same H H')
      ⟨[], rfl, List.nodup_nil, upd_same, (fun a ha => nomatch ha), same_upd nN⟩ ?_ ?_
    · rintro i H' hi ⟨as, al, an, e1, e2, e3⟩
      refine ⟨rfl, Nat.zero_le _, fun L nL => ?_⟩
      have nLN : L ≠ N := (ne_of_none e1 nL).symm
      have nLa : L ∉ as := fun hm => by rw [(e2 L hm).2.2] at nL; cases nL
      have hL0 : H L = none := by
        cases e : H L with
        | none => rfl
        | some o => rw [e3 _ _ e] at nL; cases nL
      refine ⟨as.map V.ref, by rw [upd_ne nLN.symm]; exact e1, by rw [List.length_map, al]; exact small1000 (by omega), as ++ [L], by rw [List.length_append, al]; rfl, ?_, ?_, fun a ha => ?_, fun c o e => ?_⟩
      · exact List.nodup_append.mpr ⟨an, by simp, fun a ha b hb => by
          have : b = L := by simpa using hb
          rw [this]; exact fun z => nLa (z ▸ ha)⟩
      · rw [upd_same, List.map_append]; rfl
      · rcases List.mem_append.mp ha with ha | ha
        · obtain ⟨q1, q2, q3⟩ := e2 a ha
          exact ⟨q1, q2, by rw [upd_ne q1, upd_ne (show a ≠ L from fun z => nLa (z ▸ ha))]; exact q3⟩
        · have : a = L := by simpa using ha
          subst this
          exact ⟨nLN, hL0, by rw [upd_ne nLN]; exact upd_same⟩
      · have h0 := e3 c o e
        rw [upd_ne (ne_of_none e nN), upd_ne (ne_of_none h0 nL)]
        exact h0
    rintro H1 ⟨as, al, an, e1, e2, e3⟩
    have aN : ∀ a ∈ as, a ≠ N := fun a ha => (e2 a ha).1
    have nr0 : NearAt H1 N as (List.replicate n []) := by
      refine ⟨e1, by rw [List.length_replicate, al]; omega, fun u a row ha hr => ?_, fun row hr v hv => ?_⟩
      · have := (List.mem_replicate.mp (List.mem_of_getElem? hr)).2
        subst this
        exact (e2 a (List.mem_of_getElem? ha)).2.2
      · rw [(List.mem_replicate.mp hr).2] at hv
        cases hv
    have rw0 : Rows n [] (List.replicate n []) := by
      refine ⟨List.length_replicate .., fun u row hr v => ?_⟩
      rw [(List.mem_replicate.mp (List.mem_of_getElem? hr)).2]
      simp
    -- for one, other in links
    rcases hL with hL | hL
    · refine .inl ⟨_, rfl, Lk, rfl, ⟨_, SqL.of (e3 _ _ hL)⟩, ?_⟩
      refine for_list (K := K) (a := Lk) (xs := xs) (fun i σ H' => ∃ (v3 v4 : Option V) (near : List (List Nat)), σ = [some (.int (n : Int)), some (.ref Lk), some (.ref N), v3, v4, none, none, none, none] ∧ Rows n (ls.take i) near ∧ NearAt H' N as near ∧ Same H H' ∧ ∀ row ∈ near, row.length ≤ 2 * i)
        ⟨none, none, _, rfl, rw0, nr0, e3, fun row hr => by rw [(List.mem_replicate.mp hr).2]; exact Nat.zero_le _⟩ (fun i σ H' _ p => by obtain ⟨_, _, _, _, _, _, k, _⟩ := p; exact SqL.of (k _ _ hL)) ?_ ?_
      · rintro i x σ H' hx ⟨v3, v4, near, rfl, hR, hN, k, hs⟩
        obtain ⟨p, hp⟩ : ∃ p, ls[i]? = some p := ⟨_, List.getElem?_eq_getElem (by rw [← hxl]; exact (List.getElem?_eq_some_iff.mp hx).1)⟩
        have hi : i < ls.length := (List.getElem?_eq_some_iff.mp hp).1
        obtain ⟨la, lb⟩ := hlt p (List.mem_of_getElem? hp)
        obtain ⟨t, o1, o2, c1, c2, rfl, t1, t2, t3⟩ := (hlk i x p hx hp).kept fun a xs e => k _ _ e
        obtain ⟨a1, ha1⟩ : ∃ a, as[p.1]? = some a := ⟨_, List.getElem?_eq_getElem (by rw [hN.n, hR.1]; exact la)⟩
        obtain ⟨r1, hr1⟩ : ∃ r, near[p.1]? = some r := ⟨_, List.getElem?_eq_getElem (by rw [hR.1]; exact la)⟩
        have hN2 := hN.add an ha1 hr1 aN (by rw [hR.1]; exact lb)
        obtain ⟨a2, ha2⟩ : ∃ a, as[p.2]? = some a := ⟨_, List.getElem?_eq_getElem (by rw [hN.n, hR.1]; exact lb)⟩
        obtain ⟨r2, hr2⟩ : ∃ r, (addR near p.1 p.2)[p.2]? = some r := ⟨_, List.getElem?_eq_getElem (by rw [addR_len, hR.1]; exact lb)⟩
        have hN3 := hN2.add an ha2 hr2 aN (by rw [addR_len, hR.1]; exact la)
        have s1 := hs r1 (List.mem_of_getElem? hr1)
        have s2 := addR_short hs r2 (List.mem_of_getElem? hr2)
        have f1 := (e2 a1 (List.mem_of_getElem? ha1)).2.1
        have f2 := (e2 a2 (List.mem_of_getElem? ha2)).2.1
        have g1 := hN.rows p.1 a1 r1 ha1 hr1
        have g2 := hN2.rows p.2 a2 r2 ha2 hr2
        have u1 : ∀ {o z}, H' o = some (.tup z) → (upd H' a1 (.lst (iv r1 ++ [V.int (p.2 : Int)]))) o = some (.tup z) := fun e => by rw [upd_ne (ne_of e g1 (by intro z; cases z))]; exact e
        have z1 : (iv r1).length = r1.length := List.length_map ..
        have z2 : (iv r2).length = r2.length := List.length_map ..
        refine ⟨t, _, rfl, SqT.of t1, rfl, _, _, rfl, _, _, rfl, rfl, ?_⟩
        refine ⟨_, rfl, _, rfl, o1, _, 0, _, rfl, rfl, SqT.of t2, at_of (j := 0) rfl rfl, N, _, p.1, .ref a1, rfl, rfl, SqL.of hN.l, at_of (j := p.1) rfl (by rw [List.getElem?_map, ha1]; rfl), .inl ⟨rfl, _, SqL.of g1⟩, _, rfl, o2, _, 0, _, rfl, rfl, SqT.of t3, at_of (j := 0) rfl rfl, a1, _, _, rfl, rfl, g1, small1000 (by omega), ?_⟩
        refine ⟨_, rfl, _, rfl, o2, _, 0, _, rfl, rfl, SqT.of (u1 t3), at_of (j := 0) rfl rfl, N, _, p.2, .ref a2, rfl, rfl, SqL.of hN2.l, at_of (j := p.2) rfl (by rw [List.getElem?_map, ha2]; rfl), .inl ⟨rfl, _, SqL.of g2⟩, _, rfl, o1, _, 0, _, rfl, rfl, SqT.of (u1 t2), at_of (j := 0) rfl rfl, a2, _, _, rfl, rfl, g2, small1000 (by omega), ?_⟩
        refine ⟨_, _, addR (addR near p.1 p.2) p.2 p.1, rfl, ?_, hN3, fun c o e => ?_, fun row hr => ?_⟩
        · rw [List.take_add_one, hp]
          exact hR.add
        · rw [upd_ne (ne_of_none e f2), upd_ne (ne_of_none e f1)]
          exact k c o e
        · have := addR_short (addR_short hs) row hr
          omega
      · rintro σ H' ⟨v3, v4, near, rfl, hR, hN, k, hs⟩
        rw [hxl, List.take_length] at hR
        refine ⟨Nat.zero_le _, fun R nR => ?_⟩
        have s1 : Same H' (upd H' R (HO.lst [])) := same_upd nR
        have g1 : (upd H' R (HO.lst [])) R = some (HO.lst []) := upd_same
        generalize (upd H' R (HO.lst [])) = G1 at s1 g1 ⊢
        refine ⟨Nat.le_of_lt (small1000 (n := 1) (by decide)), fun q0 nq0 => ?_⟩
        have s2 : Same G1 (upd G1 q0 (HO.lst [V.bl false])) := same_upd nq0
        have g2 : (upd G1 q0 (HO.lst [V.bl false])) q0 = some (HO.lst [V.bl false]) := upd_same
        generalize (upd G1 q0 (HO.lst [V.bl false])) = G2 at s2 g2 ⊢
        refine ⟨_, rfl, q0, (n : Int), [V.bl false], rfl, rfl, g2, by omega, by omega, Nat.le_of_lt (small1000 (by show 1 * _ ≤ 1000; omega)), fun S nS => ?_⟩
        rw [flat_one, show List.replicate (n : Int).toNat (V.bl false) = (List.replicate n false).map V.bl by rw [List.map_replicate]; rfl]
        have s3 : Same G2 (upd G2 S (HO.lst ((List.replicate n false).map V.bl))) := same_upd nS
        have g3 : (upd G2 S (HO.lst ((List.replicate n false).map V.bl))) S = some (HO.lst ((List.replicate n false).map V.bl)) := upd_same
        generalize (upd G2 S (HO.lst ((List.replicate n false).map V.bl))) = G3 at s3 g3 ⊢
        have hRS : R ≠ S := ne_of_none (s2 _ _ g1) nS
        have up : Same H' G3 := (s1.trans s2).trans s3
        have nRn : ∀ {c o}, H' c = some o → c ≠ R ∧ c ≠ S := fun e => ⟨ne_of_none e nR, ne_of_none (s2 _ _ (s1 _ _ e)) nS⟩
        have hNR := nRn hN.l
        have hAR : ∀ a ∈ as, a ≠ R ∧ a ≠ S := fun a ha => by
          obtain ⟨u, hu⟩ := List.getElem?_of_mem ha
          obtain ⟨r, hr⟩ : ∃ r, near[u]? = some r := ⟨_, List.getElem?_eq_getElem (by rw [← hN.n]; exact (List.getElem?_eq_some_iff.mp hu).1)⟩
          exact nRn (hN.rows u a r hu hr)
        have hN3 := hN.kept (H' := G3) (fun o e => up _ _ e) (fun a _ o e => up _ _ e)
        have gR := s3 _ _ (s2 _ _ g1)
        refine ⟨_, rfl, (n : Int), rfl, by omega, by omega, ?_⟩
        refine for_range (lo := 0) (n := (n : Int).toNat) (fun i σ H'' => ∃ (v7 : Option V) (cur : List Bool) (ps : List V), σ = [some (.int (n : Int)), some (.ref Lk), some (.ref N), v3, v4, some (.ref R), some (.ref S), v7, none] ∧ cur.length = n ∧ H'' S = some (.lst (cur.map V.bl)) ∧ H'' R = some (.lst ps) ∧ ps.length ≤ i ∧ Pst n near i cur ps.length ∧
          ∀ c o, c ≠ S → c ≠ R → G3 c = some o → H'' c = some o) ⟨none, _, [], rfl, List.length_replicate .., g3, gR, Nat.le_refl _, .inl ⟨rfl, fun v e => ?_, rfl⟩, fun c o _ _ e => e⟩ ?_ ?_
        · have := (List.mem_replicate.mp (List.mem_of_getElem? e)).2
          cases this
        · rintro i σ H'' hi ⟨v7, cur, ps, rfl, cl, j1, j2, hk, hp, kk⟩
          have hin : i < n := by omega
          obtain ⟨b, hb⟩ : ∃ b, cur[i]? = some b := ⟨_, List.getElem?_eq_getElem (by rw [cl]; exact hin)⟩
          refine ⟨_, rfl, _, rfl, S, _, 0 + (i : Int), .bl b, rfl, rfl, SqL.of j1, at_of (j := i) (by omega) (by rw [List.getElem?_map, hb]; rfl), b, rfl, ?_⟩
          cases b with
          | true =>
            show if (!true) = true then _ else _
            rw [if_neg (by decide)]
            exact ⟨_, cur, ps, rfl, cl, j1, j2, by omega, hp.skip hb, kk⟩
          | false =>
            show if (!false) = true then _ else _
            rw [if_pos (by decide)]
            have hN4 := hN3.kept (H' := H'') (fun o e => kk _ _ hNR.2 hNR.1 e) (fun a ha o e => kk _ _ (hAR a ha).2 (hAR a ha).1 e)
            refine ⟨_, rfl, .inl ⟨rfl, _, SqL.of j2⟩, _, rfl, _, rfl, _, rfl, i, N, S, as, near, cur, by rw [Int.zero_add]; rfl, hN4, j1, by rw [cl, hR.1], by rw [hR.1]; exact n9, hb, hNR.2.symm, fun a ha => (hAR a ha).2, fun L new H4 mk eS k4 nL nLS _ => ?_⟩
            have eR4 := k4 _ _ hRS j2
            refine ⟨R, ps, _, rfl, rfl, eR4, small1000 (by omega), _, new, ps ++ [.ref L], rfl, by rw [mk.len, cl], by rw [upd_ne hRS.symm]; exact eS, upd_same, by rw [List.length_append, List.length_singleton]; omega, ?_, fun c o n1 n2 e => by rw [upd_ne n2]; exact k4 _ _ n1 (kk _ _ n1 n2 e)⟩
            rw [List.length_append, List.length_singleton]
            exact hp.walk hin hb mk hR.1 cl
        · rintro σ H'' ⟨v7, cur, ps, rfl, cl, j1, j2, hk, hp, kk⟩
          have hH : ∀ c o, H c = some o → c ≠ R ∧ c ≠ S := fun c o e => nRn (k _ _ e)
          have hRn : H R = none := by
            cases e : H R with
            | none => rfl
            | some o => exact absurd rfl (hH R o e).1
          exact ⟨_, rfl, q R ps near H'' hRn j2 hR (hp.fin n1) (fun c o e => kk c o (hH c o e).2 (hH c o e).1 (up _ _ (k _ _ e)))⟩
    · refine .inr ⟨_, rfl, Lk, rfl, ⟨_, SqT.of (e3 _ _ hL)⟩, ?_⟩
      refine for_tup (K := K) (a := Lk) (xs := xs) (fun i σ H' => ∃ (v3 v4 : Option V) (near : List (List Nat)), σ = [some (.int (n : Int)), some (.ref Lk), some (.ref N), v3, v4, none, none, none, none] ∧ Rows n (ls.take i) near ∧ NearAt H' N as near ∧ Same H H' ∧ ∀ row ∈ near, row.length ≤ 2 * i)
        ⟨none, none, _, rfl, rw0, nr0, e3, fun row hr => by rw [(List.mem_replicate.mp hr).2]; exact Nat.zero_le _⟩ (fun i σ H' _ p => by obtain ⟨_, _, _, _, _, _, k, _⟩ := p; exact SqT.of (k _ _ hL)) ?_ ?_
      · rintro i x σ H' hx ⟨v3, v4, near, rfl, hR, hN, k, hs⟩
        obtain ⟨p, hp⟩ : ∃ p, ls[i]? = some p := ⟨_, List.getElem?_eq_getElem (by rw [← hxl]; exact (List.getElem?_eq_some_iff.mp hx).1)⟩
        have hi : i < ls.length := (List.getElem?_eq_some_iff.mp hp).1
        obtain ⟨la, lb⟩ := hlt p (List.mem_of_getElem? hp)
        obtain ⟨t, o1, o2, c1, c2, rfl, t1, t2, t3⟩ := (hlk i x p hx hp).kept fun a xs e => k _ _ e
        obtain ⟨a1, ha1⟩ : ∃ a, as[p.1]? = some a := ⟨_, List.getElem?_eq_getElem (by rw [hN.n, hR.1]; exact la)⟩
        obtain ⟨r1, hr1⟩ : ∃ r, near[p.1]? = some r := ⟨_, List.getElem?_eq_getElem (by rw [hR.1]; exact la)⟩
        have hN2 := hN.add an ha1 hr1 aN (by rw [hR.1]; exact lb)
        obtain ⟨a2, ha2⟩ : ∃ a, as[p.2]? = some a := ⟨_, List.getElem?_eq_getElem (by rw [hN.n, hR.1]; exact lb)⟩
        obtain ⟨r2, hr2⟩ : ∃ r, (addR near p.1 p.2)[p.2]? = some r := ⟨_, List.getElem?_eq_getElem (by rw [addR_len, hR.1]; exact lb)⟩
        have hN3 := hN2.add an ha2 hr2 aN (by rw [addR_len, hR.1]; exact la)
        have s1 := hs r1 (List.mem_of_getElem? hr1)
        have s2 := addR_short hs r2 (List.mem_of_getElem? hr2)
        have f1 := (e2 a1 (List.mem_of_getElem? ha1)).2.1
        have f2 := (e2 a2 (List.mem_of_getElem? ha2)).2.1
        have g1 := hN.rows p.1 a1 r1 ha1 hr1
        have g2 := hN2.rows p.2 a2 r2 ha2 hr2
        have u1 : ∀ {o z}, H' o = some (.tup z) → (upd H' a1 (.lst (iv r1 ++ [V.int (p.2 : Int)]))) o = some (.tup z) := fun e => by rw [upd_ne (ne_of e g1 (by intro z; cases z))]; exact e
        have z1 : (iv r1).length = r1.length := List.length_map ..
        have z2 : (iv r2).length = r2.length := List.length_map ..
        refine ⟨t, _, rfl, SqT.of t1, rfl, _, _, rfl, _, _, rfl, rfl, ?_⟩
        refine ⟨_, rfl, _, rfl, o1, _, 0, _, rfl, rfl, SqT.of t2, at_of (j := 0) rfl rfl, N, _, p.1, .ref a1, rfl, rfl, SqL.of hN.l, at_of (j := p.1) rfl (by rw [List.getElem?_map, ha1]; rfl), .inl ⟨rfl, _, SqL.of g1⟩, _, rfl, o2, _, 0, _, rfl, rfl, SqT.of t3, at_of (j := 0) rfl rfl, a1, _, _, rfl, rfl, g1, small1000 (by omega), ?_⟩
        refine ⟨_, rfl, _, rfl, o2, _, 0, _, rfl, rfl, SqT.of (u1 t3), at_of (j := 0) rfl rfl, N, _, p.2, .ref a2, rfl, rfl, SqL.of hN2.l, at_of (j := p.2) rfl (by rw [List.getElem?_map, ha2]; rfl), .inl ⟨rfl, _, SqL.of g2⟩, _, rfl, o1, _, 0, _, rfl, rfl, SqT.of (u1 t2), at_of (j := 0) rfl rfl, a2, _, _, rfl, rfl, g2, small1000 (by omega), ?_⟩
        refine ⟨_, _, addR (addR near p.1 p.2) p.2 p.1, rfl, ?_, hN3, fun c o e => ?_, fun row hr => ?_⟩
        · rw [List.take_add_one, hp]
          exact hR.add
        · rw [upd_ne (ne_of_none e f2), upd_ne (ne_of_none e f1)]
          exact k c o e
        · have := addR_short (addR_short hs) row hr
          omega
      · rintro σ H' ⟨v3, v4, near, rfl, hR, hN, k, hs⟩
        rw [hxl, List.take_length] at hR
        refine ⟨Nat.zero_le _, fun R nR => ?_⟩
        have s1 : Same H' (upd H' R (HO.lst [])) := same_upd nR
        have g1 : (upd H' R (HO.lst [])) R = some (HO.lst []) := upd_same
        generalize (upd H' R (HO.lst [])) = G1 at s1 g1 ⊢
        refine ⟨Nat.le_of_lt (small1000 (n := 1) (by decide)), fun q0 nq0 => ?_⟩
        have s2 : Same G1 (upd G1 q0 (HO.lst [V.bl false])) := same_upd nq0
        have g2 : (upd G1 q0 (HO.lst [V.bl false])) q0 = some (HO.lst [V.bl false]) := upd_same
        generalize (upd G1 q0 (HO.lst [V.bl false])) = G2 at s2 g2 ⊢
        refine ⟨_, rfl, q0, (n : Int), [V.bl false], rfl, rfl, g2, by omega, by omega, Nat.le_of_lt (small1000 (by show 1 * _ ≤ 1000; omega)), fun S nS => ?_⟩
        rw [flat_one, show List.replicate (n : Int).toNat (V.bl false) = (List.replicate n false).map V.bl by rw [List.map_replicate]; rfl]
        have s3 : Same G2 (upd G2 S (HO.lst ((List.replicate n false).map V.bl))) := same_upd nS
        have g3 : (upd G2 S (HO.lst ((List.replicate n false).map V.bl))) S = some (HO.lst ((List.replicate n false).map V.bl)) := upd_same
        generalize (upd G2 S (HO.lst ((List.replicate n false).map V.bl))) = G3 at s3 g3 ⊢
        have hRS : R ≠ S := ne_of_none (s2 _ _ g1) nS
        have up : Same H' G3 := (s1.trans s2).trans s3
        have nRn : ∀ {c o}, H' c = some o → c ≠ R ∧ c ≠ S := fun e => ⟨ne_of_none e nR, ne_of_none (s2 _ _ (s1 _ _ e)) nS⟩
        have hNR := nRn hN.l
        have hAR : ∀ a ∈ as, a ≠ R ∧ a ≠ S := fun a ha => by
          obtain ⟨u, hu⟩ := List.getElem?_of_mem ha
          obtain ⟨r, hr⟩ : ∃ r, near[u]? = some r := ⟨_, List.getElem?_eq_getElem (by rw [← hN.n]; exact (List.getElem?_eq_some_iff.mp hu).1)⟩
          exact nRn (hN.rows u a r hu hr)
        have hN3 := hN.kept (H' := G3) (fun o e => up _ _ e) (fun a _ o e => up _ _ e)
        have gR := s3 _ _ (s2 _ _ g1)
        refine ⟨_, rfl, (n : Int), rfl, by omega, by omega, ?_⟩
        refine for_range (lo := 0) (n := (n : Int).toNat) (fun i σ H'' => ∃ (v7 : Option V) (cur : List Bool) (ps : List V), σ = [some (.int (n : Int)), some (.ref Lk), some (.ref N), v3, v4, some (.ref R), some (.ref S), v7, none] ∧ cur.length = n ∧ H'' S = some (.lst (cur.map V.bl)) ∧ H'' R = some (.lst ps) ∧ ps.length ≤ i ∧ Pst n near i cur ps.length ∧
          ∀ c o, c ≠ S → c ≠ R → G3 c = some o → H'' c = some o) ⟨none, _, [], rfl, List.length_replicate .., g3, gR, Nat.le_refl _, .inl ⟨rfl, fun v e => ?_, rfl⟩, fun c o _ _ e => e⟩ ?_ ?_
        · have := (List.mem_replicate.mp (List.mem_of_getElem? e)).2
          cases this
        · rintro i σ H'' hi ⟨v7, cur, ps, rfl, cl, j1, j2, hk, hp, kk⟩
          have hin : i < n := by omega
          obtain ⟨b, hb⟩ : ∃ b, cur[i]? = some b := ⟨_, List.getElem?_eq_getElem (by rw [cl]; exact hin)⟩
          refine ⟨_, rfl, _, rfl, S, _, 0 + (i : Int), .bl b, rfl, rfl, SqL.of j1, at_of (j := i) (by omega) (by rw [List.getElem?_map, hb]; rfl), b, rfl, ?_⟩
          cases b with
          | true =>
            show if (!true) = true then _ else _
            rw [if_neg (by decide)]
            exact ⟨_, cur, ps, rfl, cl, j1, j2, by omega, hp.skip hb, kk⟩
          | false =>
            show if (!false) = true then _ else _
            rw [if_pos (by decide)]
            have hN4 := hN3.kept (H' := H'') (fun o e => kk _ _ hNR.2 hNR.1 e) (fun a ha o e => kk _ _ (hAR a ha).2 (hAR a ha).1 e)
            refine ⟨_, rfl, .inl ⟨rfl, _, SqL.of j2⟩, _, rfl, _, rfl, _, rfl, i, N, S, as, near, cur, by rw [Int.zero_add]; rfl, hN4, j1, by rw [cl, hR.1], by rw [hR.1]; exact n9, hb, hNR.2.symm, fun a ha => (hAR a ha).2, fun L new H4 mk eS k4 nL nLS _ => ?_⟩
            have eR4 := k4 _ _ hRS j2
            refine ⟨R, ps, _, rfl, rfl, eR4, small1000 (by omega), _, new, ps ++ [.ref L], rfl, by rw [mk.len, cl], by rw [upd_ne hRS.symm]; exact eS, upd_same, by rw [List.length_append, List.length_singleton]; omega, ?_, fun c o n1 n2 e => by rw [upd_ne n2]; exact k4 _ _ n1 (kk _ _ n1 n2 e)⟩
            rw [List.length_append, List.length_singleton]
            exact hp.walk hin hb mk hR.1 cl
        · rintro σ H'' ⟨v7, cur, ps, rfl, cl, j1, j2, hk, hp, kk⟩
          have hH : ∀ c o, H c = some o → c ≠ R ∧ c ≠ S := fun c o e => nRn (k _ _ e)
          have hRn : H R = none := by
            cases e : H R with
            | none => rfl
            | some o => exact absurd rfl (hH R o e).1
          exact ⟨_, rfl, q R ps near H'' hRn j2 hR (hp.fin n1) (fun c o e => kk c o (hH c o e).2 (hH c o e).1 (up _ _ (k _ _ e)))⟩
end
end K1

set_option Elab.async false
set_option linter.all false
set_option maxRecDepth 100000
set_option maxHeartbeats 1000000
namespace K1
open PySem PySem.Spec PyProof.Rows L2
abbrev sIsInt : Stmt := topS 9
abbrev sPlace : Stmt := topS 21
abbrev sLink : Stmt := topS 22
theorem scIsInt : FnScope ["thing"] ["thing"] (defScope sIsInt) := ⟨rfl, rfl, rfl, by decide +kernel, rfl, by decide +kernel, by decide +kernel⟩
theorem scPlace : FnScope ["thing", "many", "copy", "end"] ["thing", "many"] (defScope sPlace) := ⟨rfl, rfl, rfl, by decide +kernel, rfl, by decide +kernel, by decide +kernel⟩
theorem scLink : FnScope ["thing", "many"] ["thing", "many"] (defScope sLink) := ⟨rfl, rfl, rfl, by decide +kernel, rfl, by decide +kernel, by decide +kernel⟩
def isIntK : Kd → Bool | .int _ => true | _ => false
def isIbK : Kd → Bool | .int _ => true | .bl _ => true | _ => false
def isBlK : Kd → Bool | .bl _ => true | _ => false
theorem kit_int {K : PySem.W.Frag} (k : Kd) : PySem.W.kitOne K (.type (tyK k)) (.type "int") = some (isIbK k) :=
  match k with
  | .str _ => kit_ty (a := "str") (b := "int") (r := false) (by decide +kernel)
  | .int _ => kit_ty (a := "int") (b := "int") (r := true) (by decide +kernel)
  | .bl _ => kit_ty (a := "bool") (b := "int") (r := true) (by decide +kernel)
  | .non => kit_ty (a := "NoneType") (b := "int") (r := false) (by decide +kernel)
  | .tup _ => kit_ty (a := "tuple") (b := "int") (r := false) (by decide +kernel)
  | .lst _ => kit_ty (a := "list") (b := "int") (r := false) (by decide +kernel)
  | .dct _ => kit_ty (a := "dict") (b := "int") (r := false) (by decide +kernel)
theorem kit_bool {K : PySem.W.Frag} (k : Kd) : PySem.W.kitOne K (.type (tyK k)) (.type "bool") = some (isBlK k) :=
  match k with
  | .str _ => kit_ty (a := "str") (b := "bool") (r := false) (by decide +kernel)
  | .int _ => kit_ty (a := "int") (b := "bool") (r := false) (by decide +kernel)
  | .bl _ => kit_ty (a := "bool") (b := "bool") (r := true) (by decide +kernel)
  | .non => kit_ty (a := "NoneType") (b := "bool") (r := false) (by decide +kernel)
  | .tup _ => kit_ty (a := "tuple") (b := "bool") (r := false) (by decide +kernel)
  | .lst _ => kit_ty (a := "list") (b := "bool") (r := false) (by decide +kernel)
  | .dct _ => kit_ty (a := "dict") (b := "bool") (r := false) (by decide +kernel)
section
variable {P : Program} {w : World} {K : PySem.W.Frag} {mg : Str → Option Value} {base : Heap}
def spIsInt : Sp := fun vs H Q _ => ∃ (x : V) (k : Kd), vs = [x] ∧ Is H x k ∧ Q (.bl (isIntK k)) H
theorem ok_isInt {f : Addr} {fd : FuncData} (F : Fun K "is_int" "is_int" sIsInt f fd) (Bt : Bi mg) (mi : mg "int" = none) (mb : mg "bool" = none) : FnOk P w K mg base CX0 1 f fd ["thing"] spIsInt := by
  refine F.ok scIsInt (fun vs H Q E h => ?_) (fun cdv A outer s H vs Q E hr h => ?_)
  · obtain ⟨x, k, rfl, _⟩ := h
    rfl
  · obtain ⟨x, k, rfl, hx, q⟩ := h
    refine ⟨_, pss_one (ps_ret (pe_and (pe_callB call_isi (by rfl) Bt.isi boot_isinstance (pa_cons (pv 0) (pa_cons (pe_bltn (by rfl) mi boot_int (v := .ty "int") rfl) pa_nil)))
      (pe_one (pe_not (pe_callB call_isi (by rfl) Bt.isi boot_isinstance (pa_cons (pv 0) (pa_cons (pe_bltn (by rfl) mb boot_bool (v := .ty "bool") rfl) pa_nil))))))), ?_⟩
    refine ⟨_, rfl, _, _, _, _, _, rfl, .ty "int", hx.ty, kit_int k, _, rfl, ?_⟩
    cases hk : isIbK k with
    | false =>
      have e : isIntK k = false := by cases k <;> first | rfl | cases hk
      rw [e] at q
      show if false = true then _ else _
      rw [if_neg Bool.false_ne_true]
      exact q
    | true =>
      have e : isIntK k = !isBlK k := by cases k <;> first | rfl | cases hk
      rw [e] at q
      show if true = true then _ else _
      rw [if_pos rfl]
      exact ⟨_, rfl, _, _, _, _, _, rfl, .ty "bool", hx.ty, kit_bool k, _, rfl, q⟩
def plB (n : Nat) : Kd → Kd → Bool
  | .int a, .int b => decide (0 ≤ a) && decide (a < (n : Int)) && decide (0 ≤ b) && decide (b < 4)
  | _, _ => false
/-- whether a value is a place -/
inductive PlV (H : Hp) (n : Nat) : V → Bool → Prop
  | no {x : V} {k : Kd} (h : Is H x k) (hk : isTupK k = false) : PlV H n x false
  | len {a : Addr} {xs : List V} (h : H a = some (.tup xs)) (hl : xs.length ≠ 2) : PlV H n (.ref a) false
  | two {a : Addr} {c e : V} {kc ke : Kd} (h : H a = some (.tup [c, e])) (hc : Is H c kc) (he : Is H e ke) : PlV H n (.ref a) (plB n kc ke)
def spPlace : Sp := fun vs H Q _ => ∃ (x : V) (n : Nat) (r : Bool), vs = [x, .int (n : Int)] ∧ PlV H n x r ∧ Q (.bl r) H
theorem plB_no {n : Nat} {kc ke : Kd} (h : isIntK kc = false ∨ isIntK ke = false) : plB n kc ke = false := by
  rcases h with h | h
  · cases kc <;> first | rfl | cases h
  · cases ke <;> cases kc <;> first | rfl | cases h
theorem ok_place {f fI : Addr} {fd fdI : FuncData} (F : Fun K "_is_place" "_is_place" sPlace f fd) (dI : D K mg "is_int" sIsInt ["thing"] fI fdI) (Bt : Bi mg) (mi : mg "int" = none) (mb : mg "bool" = none) : FnOk P w K mg base CX0 2 f fd ["thing", "many"] spPlace := by
  have GI : FnOk P w K mg base CX0 1 fI fdI ["thing"] spIsInt := ok_isInt dI.F Bt mi mb
  obtain ⟨t4, hme⟩ := Bt.me
  refine F.ok scPlace (fun vs H Q E h => ?_) (fun cdv A outer s H vs Q E hr h => ?_)
  · obtain ⟨x, n, r, rfl, _⟩ := h
    rfl
  · obtain ⟨x, n, r, rfl, hP, q⟩ := h
    refine ⟨_, pss_cons (ps_if (PW.pt (pw_or (pt_not (pt_val (pe_callB call_isi (by rfl) Bt.isi boot_isinstance (pa_cons (pv 0) (pa_cons (pe_bltn (by rfl) Bt.tuple boot_tuple (v := .ty "tuple") rfl) pa_nil)))))
        (pw_or1 (pt_cmpR op_ne (pe_callB call_len_seq (by rfl) Bt.len PySem.boot_len (pa_cons (pv 0) pa_nil)) pe_int (nomark _))))) (pss_one (ps_ret pe_bl)) pss_nil)
      (pss_cons (ps_asg (pv 0) (pg_tup rfl (pgs_cons (pg_name (i := 2) scPlace.nd rfl (.inl rfl)) (pgs_cons (pg_name (i := 3) scPlace.nd rfl (.inl rfl)) pgs_nil))))
      (pss_one (ps_ret (pe_and (pe_call GI hr (by rfl) dI.m dI.F.kp dI.b .nil pass0 (pa_cons (pv 2) pa_nil)) (pe_and (pe_call GI hr (by rfl) dI.m dI.F.kp dI.b .nil pass0 (pa_cons (pv 3) pa_nil))
        (pe_and (pe_chain op_le op_lt pe_int (pv 2) (pv 1)) (pe_one (pe_chain op_le op_lt pe_int (pv 3) (pe_glob rfl hme (v := .int 4) ⟨_, rfl⟩))))))))), ?_⟩
    cases hP with
    | @no x k hx hk =>
      refine ⟨_, rfl, _, _, _, _, _, rfl, .ty "tuple", hx.ty, kit_tup k, _, rfl, ?_⟩
      rw [hk]
      exact q
    | @len a xs ha hl =>
      refine ⟨_, rfl, _, _, _, _, _, rfl, .ty "tuple", (Is.tup ha).ty, kit_tup _, _, rfl, ?_⟩
      show if (!true) = true then _ else _
      rw [if_neg (by decide)]
      refine ⟨_, rfl, a, xs, rfl, .inr (SqT.of ha), rfl, _, rfl, ?_⟩
      have e : (!decide (V.int (xs.length : Int) = V.int 2)) = true := by
        have : ¬ (V.int (xs.length : Int) = V.int 2) := fun z => hl (by have := V.int.inj z; omega)
        rw [decide_eq_false this]
        rfl
      rw [e]
      exact q
    | @two a c e kc ke ha hc he =>
      refine ⟨_, rfl, _, _, _, _, _, rfl, .ty "tuple", (Is.tup ha).ty, kit_tup _, _, rfl, ?_⟩
      show if (!true) = true then _ else _
      rw [if_neg (by decide)]
      refine ⟨_, rfl, a, _, rfl, .inr (SqT.of ha), rfl, false, rfl, ?_⟩
      show if false = true then _ else _
      rw [if_neg Bool.false_ne_true]
      refine ⟨_, rfl, a, _, rfl, SqT.of ha, rfl, _, _, rfl, _, _, rfl, rfl, ?_⟩
      refine ⟨_, rfl, c, kc, rfl, hc, _, rfl, ?_⟩
      cases hkc : isIntK kc with
      | false =>
        show if false = true then _ else _
        rw [if_neg Bool.false_ne_true]
        rw [plB_no (.inl hkc)] at q
        exact q
      | true =>
      show if true = true then _ else _
      rw [if_pos rfl]
      refine ⟨_, rfl, e, ke, rfl, he, _, rfl, ?_⟩
      cases hke : isIntK ke with
      | false =>
        show if false = true then _ else _
        rw [if_neg Bool.false_ne_true]
        rw [plB_no (.inr hke)] at q
        exact q
      | true =>
      show if true = true then _ else _
      rw [if_pos rfl]
      obtain ⟨i, rfl⟩ : ∃ i, kc = .int i := by cases kc <;> first | exact ⟨_, rfl⟩ | cases hkc
      obtain ⟨j, rfl⟩ : ∃ j, ke = .int j := by cases ke <;> first | exact ⟨_, rfl⟩ | cases hke
      cases hc
      cases he
      have hq : plB n (.int i) (.int j) = (decide (0 ≤ i) && decide (i < (n : Int)) && decide (0 ≤ j) && decide (j < 4)) := rfl
      rw [hq] at q
      refine ⟨_, rfl, _, _, rfl, rfl, _, rfl, ?_⟩
      by_cases h1 : (0 : Int) ≤ i
      · rw [decide_eq_true h1] at q ⊢
        rw [if_pos rfl]
        refine ⟨_, rfl, _, _, rfl, rfl, _, rfl, ?_⟩
        by_cases h2 : i < (n : Int)
        · rw [decide_eq_true h2] at q ⊢
          rw [if_pos rfl]
          refine ⟨_, rfl, _, _, rfl, rfl, _, rfl, ?_⟩
          by_cases h3 : (0 : Int) ≤ j
          · rw [decide_eq_true h3] at q ⊢
            rw [if_pos rfl]
            exact ⟨_, _, rfl, rfl, q⟩
          · rw [decide_eq_false h3] at q ⊢
            rw [if_neg Bool.false_ne_true]
            exact q
        · rw [decide_eq_false h2] at q ⊢
          rw [if_neg Bool.false_ne_true]
          exact q
      · rw [decide_eq_false h1] at q ⊢
        rw [if_neg Bool.false_ne_true]
        exact ⟨_, rfl, q⟩
end
end K1

set_option Elab.async false
set_option linter.all false
set_option maxRecDepth 100000
set_option maxHeartbeats 1000000
namespace K1
open PySem PySem.Spec PyProof.Rows L2
/-- whether a value is a link -/
inductive LkV (H : Hp) (n : Nat) : V → Bool → Prop
  | no {x : V} {k : Kd} (h : Is H x k) (hk : isTupK k = false) : LkV H n x false
  | len {a : Addr} {xs : List V} (h : H a = some (.tup xs)) (hl : xs.length ≠ 2) : LkV H n (.ref a) false
  | bad1 {a : Addr} {p q : V} (h : H a = some (.tup [p, q])) (h1 : PlV H n p false) : LkV H n (.ref a) false
  | bad2 {a : Addr} {p q : V} (h : H a = some (.tup [p, q])) (h1 : PlV H n p true) (h2 : PlV H n q false) : LkV H n (.ref a) false
  | good {a o1 o2 : Addr} {i j k l : Int} (h : H a = some (.tup [.ref o1, .ref o2])) (h1 : H o1 = some (.tup [.int i, .int j])) (h2 : H o2 = some (.tup [.int k, .int l])) (p1 : plB n (.int i) (.int j) = true) (p2 : plB n (.int k) (.int l) = true) :
      LkV H n (.ref a) (HT.lexLt [i, j] [k, l])
section
variable {P : Program} {w : World} {K : PySem.W.Frag} {mg : Str → Option Value} {base : Heap}
def spLink : Sp := fun vs H Q _ => ∃ (x : V) (n : Nat) (r : Bool), vs = [x, .int (n : Int)] ∧ LkV H n x r ∧ Q (.bl r) H
theorem ok_link {f fP fI : Addr} {fd fdP fdI : FuncData} (F : Fun K "_is_link" "_is_link" sLink f fd) (dP : D K mg "_is_place" sPlace ["thing", "many"] fP fdP) (dI : D K mg "is_int" sIsInt ["thing"] fI fdI) (Bt : Bi mg) (mi : mg "int" = none) (mb : mg "bool" = none) : FnOk P w K mg base CX0 3 f fd ["thing", "many"] spLink := by
  have GP : FnOk P w K mg base CX0 2 fP fdP ["thing", "many"] spPlace := ok_place dP.F dI Bt mi mb
  refine F.ok scLink (fun vs H Q E h => ?_) (fun cdv A outer s H vs Q E hr h => ?_)
  · obtain ⟨x, n, r, rfl, _⟩ := h
    rfl
  · obtain ⟨x, n, r, rfl, hP, q⟩ := h
    have hu1 : (A.deeper (envOfC "_is_link" (defScope sLink) s.heap.objs.size f cdv)).units < cLine := by have := hr.un; omega
    refine ⟨_, pss_cons (ps_if (PW.pt (pw_or (pt_not (pt_val (pe_callB call_isi (by rfl) Bt.isi boot_isinstance (pa_cons (pv 0) (pa_cons (pe_bltn (by rfl) Bt.tuple boot_tuple (v := .ty "tuple") rfl) pa_nil)))))
        (pw_or1 (pt_cmpR op_ne (pe_callB call_len_seq (by rfl) Bt.len PySem.boot_len (pa_cons (pv 0) pa_nil)) pe_int (nomark _))))) (pss_one (ps_ret pe_bl)) pss_nil)
      (pss_one (ps_ret (pe_and (pe_call GP hr (by rfl) dP.m dP.F.kp dP.b .nil pass0 (pa_cons (pe_ix ix_tup (pv 0) pe_int (fun _ _ => rfl)) (pa_cons (pv 1) pa_nil)))
        (pe_and (pe_call GP hr (by rfl) dP.m dP.F.kp dP.b .nil pass0 (pa_cons (pe_ix ix_tup (pv 0) pe_int (fun _ _ => rfl)) (pa_cons (pv 1) pa_nil)))
        (pe_one (pe_cmpR (op_ltT hu1) (pe_ix ix_tup (pv 0) pe_int (fun _ _ => rfl)) (pe_ix ix_tup (pv 0) pe_int (fun _ _ => rfl)) (nomark _))))))), ?_⟩
    have two : ∀ {a : Addr} {p p2 : V}, H a = some (.tup [p, p2]) → x = .ref a → ∃ k, Is H x k ∧ isTupK k = true := fun h e => ⟨_, by rw [e]; exact .tup h, rfl⟩
    cases hP with
    | @no x k hx hk =>
      refine ⟨_, rfl, _, _, _, _, _, rfl, .ty "tuple", hx.ty, kit_tup k, _, rfl, ?_⟩
      rw [hk]
      exact q
    | @len a xs ha hl =>
      refine ⟨_, rfl, _, _, _, _, _, rfl, .ty "tuple", (Is.tup ha).ty, kit_tup _, _, rfl, ?_⟩
      show if (!true) = true then _ else _
      rw [if_neg (by decide)]
      refine ⟨_, rfl, a, xs, rfl, .inr (SqT.of ha), rfl, _, rfl, ?_⟩
      have e : (!decide (V.int (xs.length : Int) = V.int 2)) = true := by
        have : ¬ (V.int (xs.length : Int) = V.int 2) := fun z => hl (by have := V.int.inj z; omega)
        rw [decide_eq_false this]
        rfl
      rw [e]
      exact q
    | @bad1 a p p2 ha h1 =>
      refine ⟨_, rfl, _, _, _, _, _, rfl, .ty "tuple", (Is.tup ha).ty, kit_tup _, _, rfl, ?_⟩
      show if (!true) = true then _ else _
      rw [if_neg (by decide)]
      refine ⟨_, rfl, a, _, rfl, .inr (SqT.of ha), rfl, false, rfl, ?_⟩
      show if false = true then _ else _
      rw [if_neg Bool.false_ne_true]
      refine ⟨_, rfl, a, _, 0, _, rfl, rfl, SqT.of ha, at_of (j := 0) rfl rfl, _, rfl, p, n, false, rfl, h1, _, rfl, ?_⟩
      show if false = true then _ else _
      rw [if_neg Bool.false_ne_true]
      exact q
    | @bad2 a p p2 ha h1 h2 =>
      refine ⟨_, rfl, _, _, _, _, _, rfl, .ty "tuple", (Is.tup ha).ty, kit_tup _, _, rfl, ?_⟩
      show if (!true) = true then _ else _
      rw [if_neg (by decide)]
      refine ⟨_, rfl, a, _, rfl, .inr (SqT.of ha), rfl, false, rfl, ?_⟩
      show if false = true then _ else _
      rw [if_neg Bool.false_ne_true]
      refine ⟨_, rfl, a, _, 0, _, rfl, rfl, SqT.of ha, at_of (j := 0) rfl rfl, _, rfl, p, n, true, rfl, h1, _, rfl, ?_⟩
      show if true = true then _ else _
      rw [if_pos rfl]
      refine ⟨_, rfl, a, _, 1, _, rfl, rfl, SqT.of ha, at_of (j := 1) rfl rfl, _, rfl, p2, n, false, rfl, h2, _, rfl, ?_⟩
      show if false = true then _ else _
      rw [if_neg Bool.false_ne_true]
      exact q
    | @good a o1 o2 i j k l ha h1 h2 p1 p2 =>
      refine ⟨_, rfl, _, _, _, _, _, rfl, .ty "tuple", (Is.tup ha).ty, kit_tup _, _, rfl, ?_⟩
      show if (!true) = true then _ else _
      rw [if_neg (by decide)]
      refine ⟨_, rfl, a, _, rfl, .inr (SqT.of ha), rfl, false, rfl, ?_⟩
      show if false = true then _ else _
      rw [if_neg Bool.false_ne_true]
      have q1 : PlV H n (.ref o1) true := by rw [← p1]; exact .two h1 (.int i) (.int j)
      have q2 : PlV H n (.ref o2) true := by rw [← p2]; exact .two h2 (.int k) (.int l)
      refine ⟨_, rfl, a, _, 0, _, rfl, rfl, SqT.of ha, at_of (j := 0) rfl rfl, _, rfl, .ref o1, n, true, rfl, q1, _, rfl, ?_⟩
      show if true = true then _ else _
      rw [if_pos rfl]
      refine ⟨_, rfl, a, _, 1, _, rfl, rfl, SqT.of ha, at_of (j := 1) rfl rfl, _, rfl, .ref o2, n, true, rfl, q2, _, rfl, ?_⟩
      show if true = true then _ else _
      rw [if_pos rfl]
      exact ⟨_, rfl, a, _, 0, _, rfl, rfl, SqT.of ha, at_of (j := 0) rfl rfl, _, rfl, a, _, 1, _, rfl, rfl, SqT.of ha, at_of (j := 1) rfl rfl, o1, o2, [i, j], [k, l], rfl, rfl, SqT.of h1, SqT.of h2, q⟩
end
end K1

set_option Elab.async false
set_option linter.all false
set_option maxRecDepth 100000
set_option maxHeartbeats 1000000
namespace K1
open PySem PySem.Spec PyProof.Rows L2
abbrev sCopies : Stmt := topS 30
theorem scCopies : FnScope ["blocks", "name"] ["blocks"] (defScope sCopies) := ⟨rfl, rfl, rfl, by decide +kernel, rfl, by decide +kernel, by decide +kernel⟩
def isLstK : Kd → Bool | .lst _ => true | _ => false
theorem kit_lst {K : PySem.W.Frag} (k : Kd) : PySem.W.kitOne K (.type (tyK k)) (.type "list") = some (isLstK k) :=
  match k with
  | .str _ => kit_ty (a := "str") (b := "list") (r := false) (by decide +kernel)
  | .int _ => kit_ty (a := "int") (b := "list") (r := false) (by decide +kernel)
  | .bl _ => kit_ty (a := "bool") (b := "list") (r := false) (by decide +kernel)
  | .non => kit_ty (a := "NoneType") (b := "list") (r := false) (by decide +kernel)
  | .tup _ => kit_ty (a := "tuple") (b := "list") (r := false) (by decide +kernel)
  | .lst _ => kit_ty (a := "list") (b := "list") (r := true) (by decide +kernel)
  | .dct _ => kit_ty (a := "dict") (b := "list") (r := false) (by decide +kernel)
theorem kit_seq {K : PySem.W.Frag} (k : Kd) : PySem.W.kitAny K (.type (tyK k)) [.type "list", .type "tuple"] = some (isLstK k || isTupK k) := by
  unfold PySem.W.kitAny
  rw [kit_lst]
  cases isLstK k with
  | true => rfl
  | false =>
    show PySem.W.kitAny K (.type (tyK k)) [.type "tuple"] = _
    unfold PySem.W.kitAny
    rw [kit_tup]
    cases isTupK k <;> rfl
/-- what the items are -/
def Kinds (H : Hp) (xs : List V) (ks : List Kd) : Prop := ks.length = xs.length ∧ ∀ (i : Nat) x k, xs[i]? = some x → ks[i]? = some k → Is H x k ∧ ∀ z, k = .str z → z.length ≤ sizeLine
def cpB (ks : List Kd) : Bool := decide (1 ≤ ks.length) && decide (ks.length ≤ 200) && ks.all wordK
/-- whether a value is copies -/
inductive CpV (H : Hp) : V → Bool → Prop
  | no {x : V} {k : Kd} (h : Is H x k) (hk : isTupK k = false) (hl : isLstK k = false) : CpV H x false
  | lst {a : Addr} {xs : List V} {ks : List Kd} (h : H a = some (.lst xs)) (hk : Kinds H xs ks) : CpV H (.ref a) (cpB ks)
  | tup {a : Addr} {xs : List V} {ks : List Kd} (h : H a = some (.tup xs)) (hk : Kinds H xs ks) : CpV H (.ref a) (cpB ks)
section
variable {P : Program} {w : World} {K : PySem.W.Frag} {mg : Str → Option Value} {base : Heap}
def spCopies : Sp := fun vs H Q _ => ∃ (x : V) (r : Bool), vs = [x] ∧ CpV H x r ∧ ∀ H', Same H H' → Q (.bl r) H'
theorem ok_copies {f fW fL : Addr} {fd fdW fdL : FuncData} {t200 : Tok} (F : Fun K "_are_copies" "_are_copies" sCopies f fd) (dW : D K mg "is_word" sIsWord ["thing"] fW fdW) (dL : D K mg "is_letter" sLetter ["sign"] fL fdL) (Bt : Bi mg) (mc : mg "MOST_COPIES" = some (.int 200 t200)) : FnOk P w K mg base CX0 3 f fd ["blocks"] spCopies := by
  have GW : FnOk P w K mg base CX0 2 fW fdW ["thing"] spIsWord := ok_isWord dW.F dL Bt
  refine F.ok scCopies (fun vs H Q E h => ?_) (fun cdv A outer s H vs Q E hr h => ?_)
  · obtain ⟨x, r, rfl, _⟩ := h
    rfl
  · obtain ⟨x, r, rfl, hC, q⟩ := h
    refine ⟨_, pss_cons (ps_if (PW.pt (pw_or (pt_not (pt_val (pe_callB call_isiT (by rfl) Bt.isi boot_isinstance (pa_cons (pv 0) (pa_cons (pe_tup (pa_cons (pe_bltn (by rfl) Bt.list boot_list (v := .ty "list") rfl) (pa_cons (pe_bltn (by rfl) Bt.tuple boot_tuple (v := .ty "tuple") rfl) pa_nil))) pa_nil)))))
        (pw_or1 (pt_not (pt_chain op_le op_le pe_int (pe_callB call_len_seq (by rfl) Bt.len PySem.boot_len (pa_cons (pv 0) pa_nil)) (pe_glob rfl mc (v := .int 200) ⟨_, rfl⟩)))))) (pss_one (ps_ret pe_bl)) pss_nil)
      (pss_one (ps_ret (pe_callB (cr_all rfl) (by rfl) Bt.all boot_all (pa_cons
        (pe_lc (own := [("name", 1)]) (g := gName 1) (tt := tYes) rfl scCopies.nd (pi_two (pi_list (pv 0)) (pi_tup (pv 0))) (blkOk_by (own := [("name", 1)]) (N := ["blocks", "name"]) (sc := defScope sCopies) (by decide +kernel))
          (fun _ _ _ _ _ => pg_name (i := 1) scCopies.nd rfl (Or.inl rfl)) (fun _ _ _ _ _ => pts_nil)
          (fun _ _ _ _ _ => pe_call GW hr (by rfl) dW.m dW.F.kp dW.b .nil pass0 (pa_cons (pv 1) pa_nil))) pa_nil)))), ?_⟩
    refine ⟨_, rfl, Nat.le_of_lt (small1000 (n := 2) (by decide)), fun T nT => ?_⟩
    have s1 : Same H (upd H T (HO.tup [V.ty "list", V.ty "tuple"])) := same_upd nT
    have e1 : (upd H T (HO.tup [V.ty "list", V.ty "tuple"])) T = some (HO.tup [V.ty "list", V.ty "tuple"]) := upd_same
    generalize (upd H T (HO.tup [V.ty "list", V.ty "tuple"])) = H1 at s1 e1 ⊢
    cases hC with
    | @no x k hx hk hl =>
      refine ⟨_, T, _, _, _, _, rfl, e1, .cons (.ty "list") (.cons (.ty "tuple") .nil), (hx.same s1).ty, kit_seq k, _, rfl, ?_⟩
      rw [hk, hl]
      exact q _ s1
    | @lst a xs ks ha hk =>
      refine ⟨_, T, _, _, _, _, rfl, e1, .cons (.ty "list") (.cons (.ty "tuple") .nil), (Is.lst (s1 _ _ ha)).ty, kit_seq _, _, rfl, ?_⟩
      show if (!true) = true then _ else _
      rw [if_neg (by decide)]
      have hkl := hk.1
      refine ⟨_, rfl, a, xs, rfl, .inl (SqL.of (s1 _ _ ha)), _, _, rfl, rfl, _, rfl, ?_⟩
      by_cases h1 : (1 : Int) ≤ (xs.length : Int)
      · rw [decide_eq_true h1, if_pos rfl]
        refine ⟨_, _, rfl, rfl, _, rfl, ?_⟩
        by_cases h2 : (xs.length : Int) ≤ 200
        · rw [decide_eq_true h2]
          show if (!true) = true then _ else _
          rw [if_neg (by decide)]
          have hw : cpB ks = (ks.map wordK).all id := by
            show (decide (1 ≤ ks.length) && decide (ks.length ≤ 200) && ks.all wordK) = _
            rw [decide_eq_true (show 1 ≤ ks.length by omega), decide_eq_true (show ks.length ≤ 200 by omega), Bool.true_and, Bool.true_and, List.all_map]
            rfl
          refine .inl ⟨_, rfl, a, rfl, ⟨_, SqL.of (s1 _ _ ha)⟩, fun L nL => lc_list (K := K) (a := a) (xs := xs) (fun i H2 => H2 L = some (.lst (((ks.take i).map wordK).map V.bl)) ∧ ∀ c o, c ≠ L → H1 c = some o → H2 c = some o) ⟨upd_same, fun c o n e => by rw [upd_ne n]; exact e⟩
            (fun i H2 _ e => SqL.of (e.2 _ _ (ne_of_none (s1 _ _ ha) nL) (s1 _ _ ha))) ?_ ?_⟩
          · rintro i y H2 hy ⟨g1, g2⟩
            have hi : i < xs.length := (List.getElem?_eq_some_iff.mp hy).1
            obtain ⟨kd, hkd⟩ : ∃ kd, ks[i]? = some kd := ⟨_, List.getElem?_eq_getElem (by omega)⟩
            obtain ⟨hy1, hy2⟩ := hk.2 i y kd hy hkd
            have s2 : Same H1 H2 := fun c o e => g2 c o (ne_of_none e nL) e
            refine ⟨rfl, _, rfl, y, kd, rfl, (hy1.same s1).same s2, hy2, fun H3 s3 => ⟨_, s3 _ _ g1, ?_, ?_, fun c o n e => by rw [upd_ne n]; exact s3 _ _ (g2 c o n e)⟩⟩
            · rw [List.length_map, List.length_map, List.length_take]
              exact small1000 (by omega)
            · rw [upd_same, List.take_add_one, hkd, List.map_append, List.map_append]
              rfl
          · rintro H2 ⟨g1, g2⟩
            refine ⟨L, _, rfl, SqL.of g1, ?_⟩
            rw [← hkl, List.take_length]
            rw [hw] at q
            exact q _ (s1.trans fun c o e => g2 c o (ne_of_none e nL) e)
        · rw [decide_eq_false h2]
          have hw : cpB ks = false := by
            show (decide (1 ≤ ks.length) && decide (ks.length ≤ 200) && ks.all wordK) = _
            rw [decide_eq_false (show ¬ ks.length ≤ 200 by omega), Bool.and_false, Bool.false_and]
          rw [hw] at q
          exact q _ s1
      · rw [decide_eq_false h1, if_neg Bool.false_ne_true]
        refine ⟨_, rfl, ?_⟩
        have hw : cpB ks = false := by
          show (decide (1 ≤ ks.length) && decide (ks.length ≤ 200) && ks.all wordK) = _
          rw [decide_eq_false (show ¬ 1 ≤ ks.length by omega), Bool.false_and, Bool.false_and]
        rw [hw] at q
        exact q _ s1
    | @tup a xs ks ha hk =>
      refine ⟨_, T, _, _, _, _, rfl, e1, .cons (.ty "list") (.cons (.ty "tuple") .nil), (Is.tup (s1 _ _ ha)).ty, kit_seq _, _, rfl, ?_⟩
      show if (!true) = true then _ else _
      rw [if_neg (by decide)]
      have hkl := hk.1
      refine ⟨_, rfl, a, xs, rfl, .inr (SqT.of (s1 _ _ ha)), _, _, rfl, rfl, _, rfl, ?_⟩
      by_cases h1 : (1 : Int) ≤ (xs.length : Int)
      · rw [decide_eq_true h1, if_pos rfl]
        refine ⟨_, _, rfl, rfl, _, rfl, ?_⟩
        by_cases h2 : (xs.length : Int) ≤ 200
        · rw [decide_eq_true h2]
          show if (!true) = true then _ else _
          rw [if_neg (by decide)]
          have hw : cpB ks = (ks.map wordK).all id := by
            show (decide (1 ≤ ks.length) && decide (ks.length ≤ 200) && ks.all wordK) = _
            rw [decide_eq_true (show 1 ≤ ks.length by omega), decide_eq_true (show ks.length ≤ 200 by omega), Bool.true_and, Bool.true_and, List.all_map]
            rfl
          refine .inr ⟨_, rfl, a, rfl, ⟨_, SqT.of (s1 _ _ ha)⟩, fun L nL => lc_tup (K := K) (a := a) (xs := xs) (fun i H2 => H2 L = some (.lst (((ks.take i).map wordK).map V.bl)) ∧ ∀ c o, c ≠ L → H1 c = some o → H2 c = some o) ⟨upd_same, fun c o n e => by rw [upd_ne n]; exact e⟩
            (fun i H2 _ e => SqT.of (e.2 _ _ (ne_of_none (s1 _ _ ha) nL) (s1 _ _ ha))) ?_ ?_⟩
          · rintro i y H2 hy ⟨g1, g2⟩
            have hi : i < xs.length := (List.getElem?_eq_some_iff.mp hy).1
            obtain ⟨kd, hkd⟩ : ∃ kd, ks[i]? = some kd := ⟨_, List.getElem?_eq_getElem (by omega)⟩
            obtain ⟨hy1, hy2⟩ := hk.2 i y kd hy hkd
            have s2 : Same H1 H2 := fun c o e => g2 c o (ne_of_none e nL) e
            refine ⟨rfl, _, rfl, y, kd, rfl, (hy1.same s1).same s2, hy2, fun H3 s3 => ⟨_, s3 _ _ g1, ?_, ?_, fun c o n e => by rw [upd_ne n]; exact s3 _ _ (g2 c o n e)⟩⟩
            · rw [List.length_map, List.length_map, List.length_take]
              exact small1000 (by omega)
            · rw [upd_same, List.take_add_one, hkd, List.map_append, List.map_append]
              rfl
          · rintro H2 ⟨g1, g2⟩
            refine ⟨L, _, rfl, SqL.of g1, ?_⟩
            rw [← hkl, List.take_length]
            rw [hw] at q
            exact q _ (s1.trans fun c o e => g2 c o (ne_of_none e nL) e)
        · rw [decide_eq_false h2]
          have hw : cpB ks = false := by
            show (decide (1 ≤ ks.length) && decide (ks.length ≤ 200) && ks.all wordK) = _
            rw [decide_eq_false (show ¬ ks.length ≤ 200 by omega), Bool.and_false, Bool.false_and]
          rw [hw] at q
          exact q _ s1
      · rw [decide_eq_false h1, if_neg Bool.false_ne_true]
        refine ⟨_, rfl, ?_⟩
        have hw : cpB ks = false := by
          show (decide (1 ≤ ks.length) && decide (ks.length ≤ 200) && ks.all wordK) = _
          rw [decide_eq_false (show ¬ 1 ≤ ks.length by omega), Bool.false_and, Bool.false_and]
        rw [hw] at q
        exact q _ s1
end
end K1

set_option Elab.async false
set_option linter.all false
set_option maxRecDepth 100000
set_option maxHeartbeats 1000000
namespace K1
open PySem PySem.Spec PyProof.Rows L2
theorem lexLt_self : ∀ n : List Int, HT.lexLt n n = false
  | [] => rfl
  | x :: r => by
    unfold HT.lexLt
    simp [lexLt_self r]
theorem eqv_ints : ∀ n m : List Int, PyData.eqvAll (n.map PyData.int) (m.map PyData.int) = decide (n = m)
  | [], [] => rfl
  | [], _ :: _ => rfl
  | _ :: _, [] => rfl
  | x :: r, y :: t => by
    show (PyData.eqv (.int x) (.int y) && PyData.eqvAll (r.map PyData.int) (t.map PyData.int)) = _
    rw [eqv_ints r t]
    show ((x == y) && decide (r = t)) = _
    by_cases h1 : x = y <;> by_cases h2 : r = t <;> simp [h1, h2]
theorem dp_ints {K : PySem.W.Frag} {H : Hp} : ∀ n : List Int, DpAll K H (n.map V.int) (n.map PyData.int)
  | [] => .nil
  | x :: r => .cons (.int x) (dp_ints r)
theorem lay_ints : ∀ n : List Int, PyData.canLayAll0 (n.map PyData.int) = true ∧ PyData.depthAll (n.map PyData.int) ≤ 1
  | [] => ⟨rfl, by first | exact Nat.zero_le _ | decide⟩
  | x :: r => by
    obtain ⟨h1, h2⟩ := lay_ints r
    refine ⟨?_, ?_⟩
    · simp [PyData.canLayAll0, PyData.canLay0]
      exact h1
    · simp [PyData.depthAll, PyData.depth]
      omega
/-- < of two links -/
def rLtLL (K : PySem.W.Frag) : R2 := fun x y H Q => ∃ (a b a1 a2 b1 b2 : Addr) (n1 n2 m1 m2 : List Int), x = .ref a ∧ y = .ref b ∧ SqT K H a [.ref a1, .ref a2] ∧ SqT K H b [.ref b1, .ref b2] ∧ SqT K H a1 (n1.map V.int) ∧ SqT K H a2 (n2.map V.int) ∧ SqT K H b1 (m1.map V.int) ∧ SqT K H b2 (m2.map V.int) ∧
  Q (.bl (if n1 = m1 then HT.lexLt n2 m2 else HT.lexLt n1 m1)) H
section
variable {X : Cx}
theorem op_ltLL (hu : X.A.units + 64 < cLine) : OpR X (compareOp .Lt) (rLtLL X.K) := by
  intro pins s σ H x y v u Q I rx ry h
  obtain ⟨a, b, a1, a2, b1, b2, n1, n2, m1, m2, rfl, rfl, ha, hb, ha1, ha2, hb1, hb2, q⟩ := h
  cases rx
  cases ry
  have two : ∀ {c c1 c2 : Addr}, SqT X.K H c [.ref c1, .ref c2] → s.heap.IsTuple c #[Value.ref c1, Value.ref c2] := fun hc => by
    obtain ⟨its, r, p, _⟩ := I.tuple hc
    obtain ⟨u1, u2, rfl, r1, r2⟩ := vals2 r
    cases r1
    cases r2
    exact p
  have lt : ∀ {c d : Addr} {n m : List Int}, SqT X.K H c (n.map V.int) → SqT X.K H d (m.map V.int) → Ob.RcOp .Lt X.A.in1 s (.ref c) (.ref d) (HT.lexLt n m) := fun {c d n m} hc hd prog w E Q h => by
    obtain ⟨its, r1, p1, _⟩ := I.tuple hc
    obtain ⟨its2, r2, p2, _⟩ := I.tuple hd
    have i1 : IntsAre its.toArray.toList n := intsAre_of r1
    have i2 : IntsAre its2.toArray.toList m := intsAre_of r2
    exact HT.lt_tupInts p1 p2 i1 i2 (by show X.A.units + 1 < cLine; omega) h
  have eq : ∀ {c d : Addr} {n m : List Int}, SqT X.K H c (n.map V.int) → SqT X.K H d (m.map V.int) → SeqAt.EqAt X.A.in1 s (.ref c) (.ref d) (decide (n = m)) := fun {c d n m} hc hd => by
    obtain ⟨as, r1⟩ := Dp.reads I (.tuple (n.map PyData.int)) (.ref c) (.ref c) (.tup hc (dp_ints n)) rfl
    obtain ⟨bs, r2⟩ := Dp.reads I (.tuple (m.map PyData.int)) (.ref d) (.ref d) (.tup hd (dp_ints m)) rfl
    have l1 := lay_ints n
    have l2 := lay_ints m
    have e := SeqAt.eqAt_reads (.tuple (n.map PyData.int)) (.tuple (m.map PyData.int)) X.A.in1 s (.ref c) (.ref d) as bs r1 r2 (by simp only [PyData.canLay0]; exact l1.1) (by simp only [PyData.canLay0]; exact l2.1) (by
      show X.A.units + 1 + min (PyData.depth (.tuple (n.map PyData.int))) _ < cLine
      simp only [PyData.depth]
      omega)
    have ee : PyData.eqv (.tuple (n.map PyData.int)) (.tuple (m.map PyData.int)) = decide (n = m) := eqv_ints n m
    rw [ee] at e
    exact e
  have R := Ob.RcOp.tuples_lt (A := X.A) (s := s) (e := fun j => if j = 0 then decide (n1 = m1) else decide (n2 = m2)) (r := fun j => if j = 0 then HT.lexLt n1 m1 else HT.lexLt n2 m2) (two ha) (two hb) (by omega)
    (fun j h1 h2 => by
      match j, h1, h2 with
      | 0, _, _ => exact eq ha1 hb1
      | 1, _, _ => exact eq ha2 hb2)
    (fun j h1 h2 _ => by
      match j, h1, h2 with
      | 0, _, _ => exact lt ha1 hb1
      | 1, _, _ => exact lt ha2 hb2)
  have hv : Ob.lexAt (fun j => if j = 0 then decide (n1 = m1) else decide (n2 = m2)) (fun j => if j = 0 then HT.lexLt n1 m1 else HT.lexLt n2 m2) (decide ((#[Value.ref a1, Value.ref a2] : Array Value).size < (#[Value.ref b1, Value.ref b2] : Array Value).size)) 0 (min (#[Value.ref a1, Value.ref a2] : Array Value).size (#[Value.ref b1, Value.ref b2] : Array Value).size) = (if n1 = m1 then HT.lexLt n2 m2 else HT.lexLt n1 m1) := by
    show Ob.lexAt _ _ false 0 2 = _
    rw [Ob.lexAt_succ, Ob.lexAt_succ, Ob.lexAt_zero]
    by_cases h1 : n1 = m1
    · by_cases h2 : n2 = m2
      · subst h2
        simp [h1, lexLt_self]
      · simp [h1, h2]
    · simp [h1]
  rw [hv] at R
  have z : wpAny (model X.prog X.w) X.A (compareOp .Lt (.ref a) (.ref b)) (EP X pins σ Q) X.xe s := R X.prog X.w X.xe (EP X pins σ Q) ⟨.bl _, H, I, rfl, q⟩
  exact z
end
end K1

set_option Elab.async false
set_option linter.all false
set_option maxRecDepth 100000
set_option maxHeartbeats 1000000
namespace K1
open PySem PySem.Spec PyProof.Rows L2
abbrev sFacing : Stmt := topS 25
theorem scFacing : FnScope ["links", "facing", "one", "other"] ["links"] (defScope sFacing) := ⟨rfl, rfl, rfl, by decide +kernel, rfl, by decide +kernel, by decide +kernel⟩
abbrev Pl := Int × Int
def pK (p : Pl) : List Key := [Sum.inl p.1, Sum.inl p.2]
/-- a link, its two places in full -/
def LkF (H : Hp) (x : V) (o1 o2 : Addr) (p : Pl × Pl) : Prop := ∃ t : Addr, x = .ref t ∧ H t = some (.tup [.ref o1, .ref o2]) ∧ H o1 = some (.tup ((pK p.1).map kV)) ∧ H o2 = some (.tup ((pK p.2).map kV))
theorem pK_inj {p q : Pl} : pK p = pK q ↔ p = q := by
  unfold pK
  constructor
  · intro h
    have h1 := (List.cons.inj h).1
    have h2 := (List.cons.inj (List.cons.inj h).2).1
    exact Prod.ext (Sum.inl.inj h1) (Sum.inl.inj h2)
  · rintro rfl
    rfl
/-- the keys are the places of the links so far -/
def Faces (kvs : List (List Key × V)) (ls : List (Pl × Pl)) : Prop := ∀ q : Pl, (valV kvs (pK q)).isSome = true ↔ ∃ p ∈ ls, p.1 = q ∨ p.2 = q
theorem Faces.add {kvs : List (List Key × V)} {ls : List (Pl × Pl)} {p : Pl × Pl} {x y : V} (h : Faces kvs ls) : Faces (putK (putK kvs (pK p.1) x) (pK p.2) y) (ls ++ [p]) := by
  intro q
  rw [valV_put, valV_put]
  have h1 := h q
  by_cases e2 : q = p.2
  · subst e2
    rw [if_pos rfl]
    simp
    try exact .inr ⟨p.1, .inr rfl⟩
  · rw [if_neg (fun z => e2 (pK_inj.mp z))]
    by_cases e1 : q = p.1
    · subst e1
      rw [if_pos rfl]
      simp
      try exact .inr ⟨p.2, .inl rfl⟩
    · rw [if_neg (fun z => e1 (pK_inj.mp z)), h1]
      constructor
      · rintro ⟨r, hr, e⟩
        exact ⟨r, List.mem_append_left _ hr, e⟩
      · rintro ⟨r, hr, e⟩
        rcases List.mem_append.mp hr with hr | hr
        · exact ⟨r, hr, e⟩
        · have : r = p := by simpa using hr
          subst this
          rcases e with e | e
          · exact absurd e.symm e1
          · exact absurd e.symm e2
theorem LkF.kept {H H' : Hp} {x : V} {o1 o2 : Addr} {p : Pl × Pl} (h : LkF H x o1 o2 p) (e : Same H H') : LkF H' x o1 o2 p := by
  obtain ⟨t, h0, h1, h2, h3⟩ := h
  exact ⟨t, h0, e _ _ h1, e _ _ h2, e _ _ h3⟩
section
variable {P : Program} {w : World} {K : PySem.W.Frag} {mg : Str → Option Value} {base : Heap}
/-- a dict of places: its keys are the places of the links -/
def spFacing : Sp := fun vs H Q _ => ∃ (Lk : Addr) (xs : List V) (ls : List (Pl × Pl)), vs = [.ref Lk] ∧ (H Lk = some (.lst xs) ∨ H Lk = some (.tup xs)) ∧ xs.length = ls.length ∧ ls.length ≤ 400 ∧ (∀ (i : Nat) x p, xs[i]? = some x → ls[i]? = some p → ∃ o1 o2, LkF H x o1 o2 p) ∧
  ∀ (D : Addr) (kvs : List (List Key × V)) (H' : Hp), H D = none → H' D = some (.dT kvs) → Faces kvs ls → Same H H' → Q (.ref D) H'
theorem ok_facing {f : Addr} {fd : FuncData} (F : Fun K "facing_ends" "facing_ends" sFacing f fd) : FnOk P w K mg base CX0 1 f fd ["links"] spFacing := by
  refine F.ok scFacing (fun vs H Q E h => ?_) (fun cdv A outer s H vs Q E hr h => ?_)
  · obtain ⟨Lk, xs, ls, rfl, _⟩ := h
    rfl
  · obtain ⟨Lk, xs, ls, rfl, hL, hxl, h4, hlk, q⟩ := h
    have hu := hu_of hr
    refine ⟨_, pss_cons (ps_set (i := 1) scFacing.nd rfl (.inl rfl) pe_dnewT)
      (pss_cons (ps_for PassesOwn.never rfl (pi_two (pi_list (pv 0)) (pi_tup (pv 0))) (pg_tup rfl (pgs_cons (pg_name (i := 2) scFacing.nd rfl (.inl rfl)) (pgs_cons (pg_name (i := 3) scFacing.nd rfl (.inl rfl)) pgs_nil)))
        (pss_cons (ps_dput hu (pv 1) (pv 2) (pv 3) rfl) (pss_one (ps_dput hu (pv 1) (pv 3) (pv 2) rfl))))
      (pss_one (ps_ret (pv 1)))), ?_⟩
    intro D nD
    have s1 : Same H (upd H D (HO.dT [])) := same_upd nD
    have e1 : (upd H D (HO.dT [])) D = some (HO.dT []) := upd_same
    generalize (upd H D (HO.dT [])) = H1 at s1 e1 ⊢
    rcases hL with hL | hL
    · refine .inl ⟨_, rfl, Lk, rfl, ⟨_, SqL.of (s1 _ _ hL)⟩, ?_⟩
      refine for_list (K := K) (a := Lk) (xs := xs) (fun i σ H' => ∃ (v2 v3 : Option V) (kvs : List (List Key × V)), σ = [some (.ref Lk), some (.ref D), v2, v3] ∧ H' D = some (.dT kvs) ∧ kvs.length ≤ 2 * i ∧ Faces kvs (ls.take i) ∧ Same H H')
        ⟨none, none, [], rfl, e1, Nat.le_refl _, fun q => by simp [valV_nil], s1⟩ (fun i σ H' _ p => by obtain ⟨_, _, _, _, _, _, _, k⟩ := p; exact SqL.of (k _ _ hL)) ?_ ?_
      · rintro i x σ H' hx ⟨v2, v3, kvs, rfl, hD, hk, hF, k⟩
        obtain ⟨p, hp⟩ : ∃ p, ls[i]? = some p := ⟨_, List.getElem?_eq_getElem (by rw [← hxl]; exact (List.getElem?_eq_some_iff.mp hx).1)⟩
        have hi : i < ls.length := (List.getElem?_eq_some_iff.mp hp).1
        obtain ⟨o1, o2, hl0⟩ := hlk i x p hx hp
        obtain ⟨t, rfl, t1, t2, t3⟩ := hl0.kept k
        have l1 := length_putK kvs (pK p.1) (V.ref o2)
        have l2 := length_putK (putK kvs (pK p.1) (V.ref o2)) (pK p.2) (V.ref o1)
        have u : ∀ {o z}, H' o = some (.tup z) → (upd H' D (.dT (putK kvs (pK p.1) (V.ref o2)))) o = some (.tup z) := fun e => by rw [upd_ne (ne_of e hD (by intro z; cases z))]; exact e
        refine ⟨t, _, rfl, SqT.of t1, rfl, _, _, rfl, _, _, rfl, rfl, ?_⟩
        refine ⟨_, rfl, _, rfl, _, rfl, D, _, rfl, DPut.t (k := pK p.1) hD t2 (small1000 (by omega)), ?_⟩
        refine ⟨_, rfl, _, rfl, _, rfl, D, _, rfl, DPut.t (k := pK p.2) upd_same (u t3) (small1000 (by omega)), ?_⟩
        refine ⟨_, _, _, rfl, upd_same, by omega, ?_, fun c o e => ?_⟩
        · rw [List.take_add_one, hp]
          exact hF.add
        · rw [upd_ne (ne_of_none e nD), upd_ne (ne_of_none e nD)]
          exact k c o e
      · rintro σ H' ⟨v2, v3, kvs, rfl, hD, hk, hF, k⟩
        rw [hxl, List.take_length] at hF
        exact ⟨_, rfl, q D kvs H' nD hD hF k⟩
    · refine .inr ⟨_, rfl, Lk, rfl, ⟨_, SqT.of (s1 _ _ hL)⟩, ?_⟩
      refine for_tup (K := K) (a := Lk) (xs := xs) (fun i σ H' => ∃ (v2 v3 : Option V) (kvs : List (List Key × V)), σ = [some (.ref Lk), some (.ref D), v2, v3] ∧ H' D = some (.dT kvs) ∧ kvs.length ≤ 2 * i ∧ Faces kvs (ls.take i) ∧ Same H H')
        ⟨none, none, [], rfl, e1, Nat.le_refl _, fun q => by simp [valV_nil], s1⟩ (fun i σ H' _ p => by obtain ⟨_, _, _, _, _, _, _, k⟩ := p; exact SqT.of (k _ _ hL)) ?_ ?_
      · rintro i x σ H' hx ⟨v2, v3, kvs, rfl, hD, hk, hF, k⟩
        obtain ⟨p, hp⟩ : ∃ p, ls[i]? = some p := ⟨_, List.getElem?_eq_getElem (by rw [← hxl]; exact (List.getElem?_eq_some_iff.mp hx).1)⟩
        have hi : i < ls.length := (List.getElem?_eq_some_iff.mp hp).1
        obtain ⟨o1, o2, hl0⟩ := hlk i x p hx hp
        obtain ⟨t, rfl, t1, t2, t3⟩ := hl0.kept k
        have l1 := length_putK kvs (pK p.1) (V.ref o2)
        have l2 := length_putK (putK kvs (pK p.1) (V.ref o2)) (pK p.2) (V.ref o1)
        have u : ∀ {o z}, H' o = some (.tup z) → (upd H' D (.dT (putK kvs (pK p.1) (V.ref o2)))) o = some (.tup z) := fun e => by rw [upd_ne (ne_of e hD (by intro z; cases z))]; exact e
        refine ⟨t, _, rfl, SqT.of t1, rfl, _, _, rfl, _, _, rfl, rfl, ?_⟩
        refine ⟨_, rfl, _, rfl, _, rfl, D, _, rfl, DPut.t (k := pK p.1) hD t2 (small1000 (by omega)), ?_⟩
        refine ⟨_, rfl, _, rfl, _, rfl, D, _, rfl, DPut.t (k := pK p.2) upd_same (u t3) (small1000 (by omega)), ?_⟩
        refine ⟨_, _, _, rfl, upd_same, by omega, ?_, fun c o e => ?_⟩
        · rw [List.take_add_one, hp]
          exact hF.add
        · rw [upd_ne (ne_of_none e nD), upd_ne (ne_of_none e nD)]
          exact k c o e
      · rintro σ H' ⟨v2, v3, kvs, rfl, hD, hk, hF, k⟩
        rw [hxl, List.take_length] at hF
        exact ⟨_, rfl, q D kvs H' nD hD hF k⟩
end
end K1

set_option Elab.async false
set_option linter.all false
set_option maxRecDepth 100000
set_option maxHeartbeats 1000000
namespace K1
open PySem PySem.Spec PyProof.Rows L2
abbrev sFit : Stmt := topS 24
theorem scFit : FnScope ["sheet", "blocks", "links", "one", "other", "ends", "others"] ["sheet", "blocks", "links"] (defScope sFit) := ⟨rfl, rfl, rfl, by decide +kernel, rfl, by decide +kernel, by decide +kernel⟩
theorem passF {X : Cx} : Passes (L2.CX X.prog X.w) X C8.E0 := passes_call LamX.takes0 (fun _ _ _ _ h => h)
/-- what a link's two ends are, told with the ends of the blocks -/
structure Two (H : Hp) (b : List (Str × V)) (nms : List Str) (p : Pl × Pl) (i1 i2 j1 j2 : Nat) (m1 m2 : Str) (a1 a2 : Addr) (e1 e2 : List Str) : Prop where
  c1 : p.1 = ((i1 : Int), (j1 : Int))
  c2 : p.2 = ((i2 : Int), (j2 : Int))
  n1 : nms[i1]? = some m1
  n2 : nms[i2]? = some m2
  l1 : K1.look b m1 = some (.ref a1)
  l2 : K1.look b m2 = some (.ref a2)
  t1 : H a1 = some (.tup (e1.map V.str))
  t2 : H a2 = some (.tup (e2.map V.str))
theorem Two.same {H H' : Hp} {b : List (Str × V)} {nms : List Str} {p : Pl × Pl} {i1 i2 j1 j2 : Nat} {m1 m2 : Str} {a1 a2 : Addr} {e1 e2 : List Str} (h : Two H b nms p i1 i2 j1 j2 m1 m2 a1 a2 e1 e2) (e : Same H H') : Two H' b nms p i1 i2 j1 j2 m1 m2 a1 a2 e1 e2 :=
  ⟨h.c1, h.c2, h.n1, h.n2, h.l1, h.l2, e _ _ h.t1, e _ _ h.t2⟩
/-- whether two ends fit -/
def fitE (ps : List (Str × Str)) (e1 e2 : List Str) (j1 j2 : Nat) : Bool := match e1[j1]?, e2[j2]? with
  | some x, some y => decide (K1.look ps x = some y)
  | _, _ => false
section
variable {P : Program} {w : World} {K : PySem.W.Frag} {mg : Str → Option Value} {base : Heap}
def spFit (C : Addr) : Sp := fun vs H Q _ => ∃ (SH pp bp np BT Lk : Addr) (ps : List (Str × Str)) (b : List (Str × V)) (nms : List Str) (xs : List V) (ls : List (Pl × Pl)) (fs : List Bool), vs = [.ref SH, .ref BT, .ref Lk] ∧ SheetAt C H SH pp bp np (pl ps) b ∧ (ps.map (·.1)).Nodup ∧ (b.map (·.1)).Nodup ∧
  H BT = some (.tup (nms.map V.str)) ∧ H Lk = some (.tup xs) ∧ xs.length = ls.length ∧ fs.length = ls.length ∧
  (∀ (i : Nat) x p r, xs[i]? = some x → ls[i]? = some p → fs[i]? = some r → ∃ o1 o2, LkF H x o1 o2 p ∧ ∃ i1 i2 j1 j2 m1 m2 a1 a2 e1 e2, Two H b nms p i1 i2 j1 j2 m1 m2 a1 a2 e1 e2 ∧ r = fitE ps e1 e2 j1 j2 ∧ (∀ x ∈ e1, ∃ y, K1.look ps x = some y)) ∧
  ∀ H', Same H H' → Q (.bl (fs.all id)) H'
theorem ok_fit {f C CK CN gP gE : Addr} {fd dP dE : FuncData} (F : Fun K "do_fit" "do_fit" sFit f fd) (S : ClsS K mg C) (Bt : Bi mg) (mP : Meth K C "partner" gP) (GP : FnOk P w K mg base (L2.CX P w) 1 gP dP ["self", "kind"] (spGet C CK true)) (bP : Binds K dP ["self", "kind"] [])
    (mE : Meth K C "ends" gE) (GE : FnOk P w K mg base (L2.CX P w) 1 gE dE ["self", "name"] (spGet C CN false)) (bE : Binds K dE ["self", "name"] []) : FnOk P w K mg base CX0 2 f fd ["sheet", "blocks", "links"] (spFit C) := by
  refine F.ok scFit (fun vs H Q E h => ?_) (fun cdv A outer s H vs Q E hr h => ?_)
  · obtain ⟨SH, pp, bp, np, BT, Lk, ps, b, nms, xs, ls, fs, rfl, _⟩ := h
    rfl
  · obtain ⟨SH, pp, bp, np, BT, Lk, ps, b, nms, xs, ls, fs, rfl, hS, pn, bn, hB, hL, hxl, hfl, hlk, q⟩ := h
    refine ⟨_, pss_cons (ps_for PassesOwn.never rfl (pi_tup (pv 2)) (pg_tup rfl (pgs_cons (pg_name (i := 3) scFit.nd rfl (.inl rfl)) (pgs_cons (pg_name (i := 4) scFit.nd rfl (.inl rfl)) pgs_nil)))
        (pss_cons (ps_par (i := 5) (j := 6) rfl scFit.nd rfl rfl (by decide) rfl rfl (pa_cons (pe_meth (pv 0) S.cl mE GE hr bE .nil passF (pa_cons (pe_ix ix_tup (pv 1) (pe_ix ix_tup (pv 3) pe_int (fun _ _ => rfl)) (fun _ _ => rfl)) pa_nil)) (pa_cons (pe_meth (pv 0) S.cl mE GE hr bE .nil passF (pa_cons (pe_ix ix_tup (pv 1) (pe_ix ix_tup (pv 4) pe_int (fun _ _ => rfl)) (fun _ _ => rfl)) pa_nil)) pa_nil)) (by rfl))
        (pss_cons (ps_if (PW.pt (pw_or (pt_cmpR op_ge (pe_ix ix_tup (pv 3) pe_int (fun _ _ => rfl)) (pe_callB call_len_seq (by rfl) Bt.len PySem.boot_len (pa_cons (pv 5) pa_nil)) (nomark _)) (pw_or1 (pt_cmpR op_ge (pe_ix ix_tup (pv 4) pe_int (fun _ _ => rfl)) (pe_callB call_len_seq (by rfl) Bt.len PySem.boot_len (pa_cons (pv 6) pa_nil)) (nomark _))))) (pss_one (ps_ret pe_bl)) pss_nil)
        (pss_one (ps_if (pt_cmpR op_ne (pe_meth (pv 0) S.cl mP GP hr bP .nil passF (pa_cons (pe_ix ix_tup (pv 5) (pe_ix ix_tup (pv 3) pe_int (fun _ _ => rfl)) (fun _ _ => rfl)) pa_nil)) (pe_ix ix_tup (pv 6) (pe_ix ix_tup (pv 4) pe_int (fun _ _ => rfl)) (fun _ _ => rfl)) (nomark _)) (pss_one (ps_ret pe_bl)) pss_nil)))))
      (pss_one (ps_ret pe_bl)), ?_⟩
    refine ⟨_, rfl, Lk, rfl, ⟨_, SqT.of hL⟩, ?_⟩
    obtain ⟨dx, ox⟩ := hS.ob
    refine for_tup (K := K) (a := Lk) (xs := xs) (fun i σ H' => (∃ v3 v4 v5 v6, σ = [some (.ref SH), some (.ref BT), some (.ref Lk), v3, v4, v5, v6]) ∧ H' = H ∧ (fs.take i).all id = true) ⟨⟨none, none, none, none, rfl⟩, rfl, rfl⟩ (fun i σ H' _ p => by rw [p.2.1]; exact SqT.of hL) ?_ ?_
    · rintro i x σ H' hx ⟨⟨v3, v4, v5, v6, rfl⟩, rfl, hal⟩
      have hi : i < xs.length := (List.getElem?_eq_some_iff.mp hx).1
      obtain ⟨p, hp⟩ : ∃ p, ls[i]? = some p := ⟨_, List.getElem?_eq_getElem (by omega)⟩
      obtain ⟨r, hr0⟩ : ∃ r, fs[i]? = some r := ⟨_, List.getElem?_eq_getElem (by omega)⟩
      obtain ⟨o1, o2, ⟨t, rfl, t1, t2, t3⟩, i1, i2, j1, j2, m1, m2, a1, a2, e1, e2, T, er, hps⟩ := hlk i x p r hx hp hr0
      have bad : r = false → Q (.bl false) H' := fun e => by
        have : fs.all id = false := by
          cases ha : fs.all id with
          | false => rfl
          | true =>
            have := List.all_eq_true.mp ha r (List.mem_of_getElem? hr0)
            rw [e] at this
            cases this
        rw [this] at q
        exact q H' (Same.refl _)
      have q1 : ∀ k, (((pK p.1).map kV)[k]? = if k = 0 then some (V.int i1) else if k = 1 then some (V.int j1) else none) := fun k => by
        rw [T.c1]
        match k with
        | 0 => rfl
        | 1 => rfl
        | k + 2 => rfl
      have q2 : ∀ k, (((pK p.2).map kV)[k]? = if k = 0 then some (V.int i2) else if k = 1 then some (V.int j2) else none) := fun k => by
        rw [T.c2]
        match k with
        | 0 => rfl
        | 1 => rfl
        | k + 2 => rfl
      refine ⟨t, _, rfl, SqT.of t1, rfl, _, _, rfl, _, _, rfl, rfl, ?_⟩
      refine ⟨_, rfl, SH, dx, _, rfl, ox, flds_no _ _ _ (by decide +kernel) (by decide +kernel) (by decide +kernel), _, rfl, _, rfl, o1, _, 0, .int (i1 : Int), rfl, rfl, SqT.of t2, at_of (j := 0) rfl (q1 0), BT, _, (i1 : Int), .str m1, rfl, rfl, SqT.of hB, at_of (j := i1) rfl (by rw [List.getElem?_map, T.n1]; rfl), ?_⟩
      refine ⟨SH, pp, bp, np, pl ps, b, .str m1, .str m1, rfl, hS, .str _, bn, .inl ⟨m1, .ref a1, rfl, T.l1, ?_⟩⟩
      refine ⟨_, rfl, SH, dx, _, rfl, ox, flds_no _ _ _ (by decide +kernel) (by decide +kernel) (by decide +kernel), _, rfl, _, rfl, o2, _, 0, .int (i2 : Int), rfl, rfl, SqT.of t3, at_of (j := 0) rfl (q2 0), BT, _, (i2 : Int), .str m2, rfl, rfl, SqT.of hB, at_of (j := i2) rfl (by rw [List.getElem?_map, T.n2]; rfl), ?_⟩
      refine ⟨SH, pp, bp, np, pl ps, b, .str m2, .str m2, rfl, hS, .str _, bn, .inl ⟨m2, .ref a2, rfl, T.l2, ?_⟩⟩
      refine ⟨_, _, rfl, ?_⟩
      -- one[1] >= len(ends) or other[1] >= len(others)
      have z1 : (e1.map V.str).length = e1.length := List.length_map ..
      have z2 : (e2.map V.str).length = e2.length := List.length_map ..
      refine ⟨_, rfl, o1, _, 1, .int (j1 : Int), rfl, rfl, SqT.of t2, at_of (j := 1) rfl (q1 1), _, rfl, a1, _, rfl, .inr (SqT.of T.t1), _, _, rfl, rfl, _, rfl, ?_⟩
      rw [z1]
      by_cases g1 : (e1.length : Int) ≤ (j1 : Int)
      · rw [decide_eq_true g1]
        have hn : e1[j1]? = none := List.getElem?_eq_none (by omega)
        have hf : fitE ps e1 e2 j1 j2 = false := by unfold fitE; rw [hn]
        exact bad (er.trans hf)
      rw [decide_eq_false g1]
      show if false = true then _ else _
      rw [if_neg Bool.false_ne_true]
      refine ⟨_, rfl, o2, _, 1, .int (j2 : Int), rfl, rfl, SqT.of t3, at_of (j := 1) rfl (q2 1), _, rfl, a2, _, rfl, .inr (SqT.of T.t2), _, _, rfl, rfl, _, rfl, ?_⟩
      rw [z2]
      obtain ⟨x1, hx1⟩ : ∃ x, e1[j1]? = some x := ⟨_, List.getElem?_eq_getElem (by omega)⟩
      by_cases g2 : (e2.length : Int) ≤ (j2 : Int)
      · rw [decide_eq_true g2]
        have hn : e2[j2]? = none := List.getElem?_eq_none (by omega)
        have hf : fitE ps e1 e2 j1 j2 = false := by unfold fitE; rw [hx1, hn]
        exact bad (er.trans hf)
      rw [decide_eq_false g2]
      show if false = true then _ else _
      rw [if_neg Bool.false_ne_true]
      obtain ⟨x2, hx2⟩ : ∃ x, e2[j2]? = some x := ⟨_, List.getElem?_eq_getElem (by omega)⟩
      obtain ⟨y1, hy1⟩ := hps x1 (List.mem_of_getElem? hx1)
      have hfit : fitE ps e1 e2 j1 j2 = decide (y1 = x2) := by
        unfold fitE
        rw [hx1, hx2]
        show decide (K1.look ps x1 = some x2) = _
        rw [hy1]
        simp
      refine ⟨_, rfl, SH, dx, _, rfl, ox, flds_no _ _ _ (by decide +kernel) (by decide +kernel) (by decide +kernel), _, rfl, _, rfl, o1, _, 1, .int (j1 : Int), rfl, rfl, SqT.of t2, at_of (j := 1) rfl (q1 1), a1, _, (j1 : Int), .str x1, rfl, rfl, SqT.of T.t1, at_of (j := j1) rfl (by rw [List.getElem?_map, hx1]; rfl), ?_⟩
      refine ⟨SH, pp, bp, np, pl ps, b, .str x1, .str x1, rfl, hS, .str _, by show ((pl ps).map (·.1)).Nodup; rw [pl_keys]; exact pn, .inl ⟨x1, .str y1, rfl, by show K1.look (pl ps) x1 = _; rw [look_pl, hy1]; rfl, ?_⟩⟩
      refine ⟨_, rfl, _, rfl, o2, _, 1, .int (j2 : Int), rfl, rfl, SqT.of t3, at_of (j := 1) rfl (q2 1), a2, _, (j2 : Int), .str x2, rfl, rfl, SqT.of T.t2, at_of (j := j2) rfl (by rw [List.getElem?_map, hx2]; rfl), rfl, _, rfl, ?_⟩
      by_cases hyx : y1 = x2
      · have e : (!decide (V.str y1 = V.str x2)) = false := by rw [hyx]; simp
        rw [e]
        show if false = true then _ else _
        rw [if_neg Bool.false_ne_true]
        refine ⟨⟨_, _, _, _, rfl⟩, rfl, ?_⟩
        rw [List.take_add_one, hr0, List.all_append, hal]
        have hr1 : r = true := by rw [er, hfit, hyx]; simp
        rw [hr1]
        rfl
      · have e : (!decide (V.str y1 = V.str x2)) = true := by
          rw [decide_eq_false (fun z => hyx (V.str.inj z))]
          rfl
        rw [e]
        show if true = true then _ else _
        rw [if_pos rfl]
        exact bad (by rw [er, hfit]; exact decide_eq_false hyx)
    · rintro σ H' ⟨⟨v3, v4, v5, v6, rfl⟩, rfl, hal⟩
      rw [hxl, ← hfl, List.take_length] at hal
      rw [hal] at q
      exact q H' (Same.refl _)
end
end K1

set_option Elab.async false
set_option linter.all false
set_option maxRecDepth 100000
set_option maxHeartbeats 1000000
namespace K1
open PySem PySem.Spec PyProof.Rows L2
abbrev sLLink : Stmt := topS 50
theorem scLLink : FnScope ["one", "two", "first", "second"] ["one", "two"] (defScope sLLink) := ⟨rfl, rfl, rfl, by decide +kernel, rfl, by decide +kernel, by decide +kernel⟩
section
variable {P : Program} {w : World} {K : PySem.W.Frag} {mg : Str → Option Value} {base : Heap}
def spLLink : Sp := fun vs H Q _ => ∃ (o t : Addr) (a b c d : Int) (r1 r2 : List V), vs = [.ref o, .ref t] ∧ H o = some (.tup (.int a :: .int b :: r1)) ∧ H t = some (.tup (.int c :: .int d :: r2)) ∧
  ∀ (x : Addr) (o1 o2 : Addr) (H' : Hp), LkF H' (.ref x) o1 o2 (if HT.lexLt [a, b] [c, d] = true then ((a, b), (c, d)) else ((c, d), (a, b))) → Same H H' → Q (.ref x) H'
theorem ok_llink {f : Addr} {fd : FuncData} (F : Fun K "_law_link" "_law_link" sLLink f fd) : FnOk P w K mg base CX0 1 f fd ["one", "two"] spLLink := by
  refine F.ok scLLink (fun vs H Q E h => ?_) (fun cdv A outer s H vs Q E hr h => ?_)
  · obtain ⟨o, t, a, b, c, d, r1, r2, rfl, _⟩ := h
    rfl
  · obtain ⟨o, t, a, b, c, d, r1, r2, rfl, ho, ht, q⟩ := h
    have hu1 : (A.deeper (envOfC "_law_link" (defScope sLLink) s.heap.objs.size f cdv)).units < cLine := by have := hr.un; omega
    refine ⟨_, pss_cons (ps_par (i := 2) (j := 3) rfl scLLink.nd rfl rfl (by decide) rfl rfl (pa_cons (pe_tup (pa_cons (pe_ix ix_tup (pv 0) pe_int (fun _ _ => rfl)) (pa_cons (pe_ix ix_tup (pv 0) pe_int (fun _ _ => rfl)) pa_nil)))
        (pa_cons (pe_tup (pa_cons (pe_ix ix_tup (pv 1) pe_int (fun _ _ => rfl)) (pa_cons (pe_ix ix_tup (pv 1) pe_int (fun _ _ => rfl)) pa_nil))) pa_nil)) (by rfl))
      (pss_one (ps_ret (pe_ifExp (pt_cmpR (op_ltT hu1) (pv 2) (pv 3) (nomark _)) (pe_tup (pa_cons (pv 2) (pa_cons (pv 3) pa_nil))) (pe_tup (pa_cons (pv 3) (pa_cons (pv 2) pa_nil)))))), ?_⟩
    refine ⟨_, rfl, o, _, 0, .int a, rfl, rfl, SqT.of ho, at_of (j := 0) rfl rfl, _, rfl, o, _, 1, .int b, rfl, rfl, SqT.of ho, at_of (j := 1) rfl rfl, Nat.le_of_lt (small1000 (n := 2) (by decide)), fun o1 n1 => ?_⟩
    have s1 : Same H (upd H o1 (HO.tup [V.int a, V.int b])) := same_upd n1
    have e1 : (upd H o1 (HO.tup [V.int a, V.int b])) o1 = some (HO.tup [V.int a, V.int b]) := upd_same
    generalize (upd H o1 (HO.tup [V.int a, V.int b])) = H1 at s1 e1 ⊢
    have ht1 := s1 _ _ ht
    refine ⟨_, rfl, t, _, 0, .int c, rfl, rfl, SqT.of ht1, at_of (j := 0) rfl rfl, _, rfl, t, _, 1, .int d, rfl, rfl, SqT.of ht1, at_of (j := 1) rfl rfl, Nat.le_of_lt (small1000 (n := 2) (by decide)), fun o2 n2 => ?_⟩
    have s2 : Same H1 (upd H1 o2 (HO.tup [V.int c, V.int d])) := same_upd n2
    have e2 : (upd H1 o2 (HO.tup [V.int c, V.int d])) o2 = some (HO.tup [V.int c, V.int d]) := upd_same
    generalize (upd H1 o2 (HO.tup [V.int c, V.int d])) = H2 at s2 e2 ⊢
    have e1' := s2 _ _ e1
    refine ⟨_, _, rfl, ?_⟩
    refine ⟨_, rfl, _, rfl, o1, o2, [a, b], [c, d], rfl, rfl, SqT.of e1', SqT.of e2, _, rfl, ?_⟩
    cases hlt : HT.lexLt [a, b] [c, d] with
    | true =>
      show if true = true then _ else _
      rw [if_pos rfl]
      rw [hlt] at q
      refine ⟨_, rfl, _, rfl, Nat.le_of_lt (small1000 (n := 2) (by decide)), fun x nx => ?_⟩
      exact q x o1 o2 _ ⟨x, rfl, upd_same, by rw [upd_ne (ne_of_none e1' nx)]; exact e1', by rw [upd_ne (ne_of_none e2 nx)]; exact e2⟩ ((s1.trans s2).trans (same_upd nx))
    | false =>
      show if false = true then _ else _
      rw [if_neg Bool.false_ne_true]
      rw [hlt] at q
      refine ⟨_, rfl, _, rfl, Nat.le_of_lt (small1000 (n := 2) (by decide)), fun x nx => ?_⟩
      exact q x o2 o1 _ ⟨x, rfl, upd_same, by rw [upd_ne (ne_of_none e2 nx)]; exact e2, by rw [upd_ne (ne_of_none e1' nx)]; exact e1'⟩ ((s1.trans s2).trans (same_upd nx))
end
end K1

set_option Elab.async false
set_option linter.all false
set_option maxRecDepth 100000
set_option maxHeartbeats 1000000
namespace K1
open PySem PySem.Spec PyProof.Rows L2
abbrev sCheck : Stmt := topS 19
theorem scCheck : FnScope ["sheet"] ["sheet"] (defScope sCheck) := ⟨rfl, rfl, rfl, by decide +kernel, rfl, by decide +kernel, by decide +kernel⟩
section
variable {P : Program} {w : World} {K : PySem.W.Frag} {mg : Str → Option Value} {base : Heap}
def spCheck (C CB : Addr) : Sp := fun vs H Q E => ∃ x : V, vs = [x] ∧ ((∃ (p dx : Addr) (fs : List (Str × V)), x = .ref p ∧ H p = some (.ins C dx fs) ∧ Q .non H) ∨ ∃ k : Kd, Is H x k ∧ E (.ref CB) none H)
theorem ok_check {f C CB : Addr} {fd : FuncData} (F : Fun K "check_sheet" "check_sheet" sCheck f fd) (Bt : Bi mg) (S : ClsS K mg C) (I : IsC K C) (X : ErrC K mg "BadSheet" CB) (no : ∀ k, PySem.W.kitOne K (.type (tyK k)) (.ref C) = some false) :
    FnOk P w K mg base (L2.CX P w) 1 f fd ["sheet"] (spCheck C CB) := by
  refine F.okX scCheck (fun vs H Q E h => ?_) (fun cdv A outer s H vs Q E hr h => ?_)
  · obtain ⟨x, rfl, _⟩ := h
    rfl
  · obtain ⟨x, rfl, h⟩ := h
    refine ⟨_, pss_one (ps_if (pt_not (pt_val (pe_callB call_isi (by rfl) Bt.isi boot_isinstance (pa_cons (pv 0) (pa_cons (pe_glob rfl S.g (v := .ref C) rfl) pa_nil)))))
      (pss_one (ps_raise rfl (takes_of rfl rfl rfl rfl) (pmk_own PySem.F.excBase_ValueError X.xc X.g X.k (raises_own X.b X.t) rfl))) pss_nil), ?_⟩
    rcases h with ⟨p, dx, fs, rfl, hp, q⟩ | ⟨k, hk, e⟩
    · refine ⟨_, rfl, _, _, _, _, true, rfl, .own C, .base (.ins hp S.cl I.ha I.hn I.ht I.hm), by unfold PySem.W.kitOne; rw [if_pos (by simp)], true, rfl, ?_⟩
      show if (!true) = true then _ else _
      rw [if_neg (by decide)]
      exact q
    · refine ⟨_, rfl, _, _, _, _, false, rfl, .own C, hk.ty, no k, false, rfl, ?_⟩
      show if (!false) = true then _ else _
      rw [if_pos (by decide)]
      exact e
end
end K1

set_option Elab.async false
set_option linter.all false
set_option maxRecDepth 100000
set_option maxHeartbeats 2000000
namespace K1
open PySem PySem.Spec PyProof.Rows L2
/-- {kx: vx for t0 in i0 for t1 in i1} -/
abbrev twoD (kx vx t0 i0 t1 i1 : Expr) (sc : Scope) (ps : Pos) : Expr := .DictComp kx vx [⟨t0, i0, [], 0⟩, ⟨t1, i1, [], 0⟩] sc ps
section
variable {kx vx t0 i0 t1 i1 : Expr} {sc : Scope} {ps : Pos}
theorem turn_outer (src dst : Value) (en : Env) : compTurn (twoD kx vx t0 i0 t1 i1 sc ps) 0 src dst en = (do
      standAt i0.pos
      match ← pyNext src with
      | none => pure (.done .next)
      | some u =>
        letOwnedTupleGo t0 src u
        assign t0 en u
        let y ← eval i1 en
        standAt i1.pos
        let y ← foldedSetIterable i1 en y
        let _ ← runOwn (.compStart (twoD kx vx t0 i0 t1 i1 sc ps) 1 (← holding [y] (pyIter y)) dst en) en
        again (.compLoop (twoD kx vx t0 i0 t1 i1 sc ps) 0 src dst en)) := by rfl
theorem turn_inner (src : Value) (D : Addr) (en : Env) : compTurn (twoD kx vx t0 i0 t1 i1 sc ps) 1 src (.ref D) en = (do
      standAt i1.pos
      match ← pyNext src with
      | none => pure (.done .next)
      | some u =>
        letOwnedTupleGo t1 src u
        assign t1 en u
        (do
          let a ← eval kx en
          let b ← holding [a] (eval vx en)
          standAt { kx.pos with endLine := vx.pos.endLine, endCol := vx.pos.endCol }
          holding [a, b] (dictSet D a b))
        again (.compLoop (twoD kx vx t0 i0 t1 i1 sc ps) 1 src (.ref D) en)) := by rfl
theorem inner_starts {pr : Program} {wo : World} {A : Around} {R : Result → Shared → Prop} {s : Shared} {src dst : Value} {en : Env}
    (one : codeAny (model pr wo) A (.compLoop (twoD kx vx t0 i0 t1 i1 sc ps) 1 src dst en) R s)
    (two : wpAny (model pr wo) A (pyIter src) (fun u t => codeAny (model pr wo) A (.compLoop (twoD kx vx t0 i0 t1 i1 sc ps) 1 u dst en) R t) (notedBy (model pr wo) A en fun x t => R (.error x) t) s) :
    codeAny (model pr wo) A (.compStart (twoD kx vx t0 i0 t1 i1 sc ps) 1 src dst en) R s := by
  apply codeAny_of_tree
  show wpAny _ A ((compStart (twoD kx vx t0 i0 t1 i1 sc ps) 1 src dst en).onRaise (fun x => do noteFrame x en; standAt theWindowsPlace)) _ _ s
  apply wpAny_notedAt
  unfold compStart
  show wpAny _ A (ask >>= _) _ _ s
  refine wpAny_bind (wpAny_askSetting (wpAny_ite ?_))
  split
  · first
      | exact wpAny_pure ⟨rfl, one⟩
      | exact wpAny_bind (wpAny_pure (wpAny_pure ⟨rfl, one⟩))
  · refine wpAny_bind (wpAny_rule ?_)
    first
      | exact wpAny_bind (wpAny_standAt (wpAny_bind (wpAny_mono two (fun u t z => wpAny_pure ⟨rfl, z⟩) fun _ _ z => z)))
      | (show wpAny _ A (standAt i1.pos >>= _) _ _ s; exact wpAny_bind (wpAny_standAt (wpAny_bind (wpAny_mono two (fun u t z => wpAny_pure ⟨rfl, z⟩) fun _ _ z => z))))
end
section
variable {X : Cx} {pins : List (Addr × Obj)} {σ : L2.St} {H : Hp} {s : Shared}
/-- a dict's item stored by a comprehension -/
theorem put_comp {H' : Hp} {D : Addr} {y z : V} {u r : Value} {Q : Unit → Shared → Prop} {E : Value → Shared → Prop} (hu : X.A.units < cLine) (I : Inv X pins σ H s) (g : DPut H D y z H') (ry : RelV y u) (rz : RelV z r)
    (h : ∀ t, Inv X pins σ H' t → Q () t) : wpAny (model X.prog X.w) X.A (dictSet D u r) Q E s := by
  rcases g with ⟨kvs, k, e, rfl, l, rfl⟩ | ⟨kvs, k, b, e, rfl, eb, l, rfl⟩
  · exact d_dictSet I e l ry rz h
  · cases (show u = Value.ref b from ry)
    obtain ⟨z1, z2, xs, rel, dd⟩ := dt_of I.hok e
    refine wpAny_dictSet_heap (hsz := by rw [← Paired.length rel]; exact z1) (show (tupleKind (mixKind X.prog X.w)).room X.A from hu) (key_of I.hok eb) dd fun h' dd' sb => h _ ?_
    obtain ⟨q, es, ep, hq, c2, c3, c4, _, c5⟩ := dd'
    have hl : (putK kvs k z).length ≤ sizeLine := Nat.le_trans (length_putK kvs k z) l
    refine d_write I (by rw [e]; exact trivial) sb ⟨q, hq⟩ ⟨hl, z2, _, (rel.put k eb rz).keeps fun c ys ec => ?_, q, es, ep, hq, c2, c3, c4, c5⟩
    rw [upd_ne (ne_of ec e (fun z => nomatch z))]
    exact ec
end
end K1

set_option Elab.async false
set_option linter.all false
set_option maxRecDepth 100000
set_option maxHeartbeats 2000000
namespace K1
open PySem PySem.Spec PyProof.Rows L2
/-- what a dict comprehension over two sources asks: the outer walk's state is W, the inner one's V -/
def tDict2 (wo : TI) (go : TG) (wn : TI) (gn : TG) (tk tv : TE) (all inn : List Nat) : TE := fun σ H Q => wo σ H fun J H1 => ∀ D, H1 D = none → ∃ W : Nat → Nat → Hp → Prop, (∃ m, W 0 m (upd H1 D (.dT []))) ∧
  ∀ i m G, W i m G → (J.stop i G ∧ Q (.ref D) G) ∨ (J.go i G ∧ ∃ Nx : Hp → Prop, (∀ G', Nx G' → ∃ m', m' < m ∧ W (i + 1) m' G') ∧
    ∀ x G', J.yld i G x G' → go x (wipe σ all) G' fun τ G2 => wipe τ all = wipe σ all ∧ wn τ G2 fun J1 G3 => ∃ V : Nat → Nat → Hp → Prop, (∃ m, V 0 m G3) ∧
      ∀ j k G, V j k G → (J1.stop j G ∧ Nx G) ∨ (J1.go j G ∧ ∃ Ny : Hp → Prop, (∀ G', Ny G' → ∃ k', k' < k ∧ V (j + 1) k' G') ∧
        ∀ x G', J1.yld j G x G' → gn x (wipe τ inn) G' fun υ G4 => wipe υ inn = wipe τ inn ∧ tk υ G4 fun y G5 => tv υ G5 fun z G6 => ∃ G7, DPut G6 D y z G7 ∧ Ny G7))
section
variable {X : Cx} {kx vx t0 i0 t1 i1 : Expr} {sc : Scope} {ps : Pos}
theorem set_dict2 {i : Nat} {nm : Str} {py spos : Pos} {own : List (Str × Nat)} {inn : List Nat} {wo wn : TI} {go gn : TG} {tk tv : TE} (hc : X.calm = true) (hN : X.N.Nodup) (hu : X.A.units < cLine) (hnm : X.N[i]? = some nm) (hloc : X.env.scope.names.lookup nm = some .local)
    (hsw : swapsWith (twoD kx vx t0 i0 t1 i1 sc ps) (some (.Name nm py)) spos.line X.env = pure true) (ho : PI X t0 i0 wo) (ok : L2.BlkOk X.N X.env.scope sc own) (hin : ∀ j ∈ inn, j ∈ own.map (·.2))
    (g0 : ∀ (u : Shared) (G : Hp) (C : Addr) (cl : List (Str × Addr)) (fp : List Addr), PG (X.blk u G sc (compEnvC sc cl C X.env) fp) t0 go) (n1 : ∀ (u : Shared) (G : Hp) (C : Addr) (cl : List (Str × Addr)) (fp : List Addr), PI (X.blk u G sc (compEnvC sc cl C X.env) fp) t1 i1 wn)
    (g1 : ∀ (u : Shared) (G : Hp) (C : Addr) (cl : List (Str × Addr)) (fp : List Addr), PG (X.blk u G sc (compEnvC sc cl C X.env) fp) t1 gn) (ek : ∀ (u : Shared) (G : Hp) (C : Addr) (cl : List (Str × Addr)) (fp : List Addr), PE (X.blk u G sc (compEnvC sc cl C X.env) fp) kx tk) (ev : ∀ (u : Shared) (G : Hp) (C : Addr) (cl : List (Str × Addr)) (fp : List Addr), PE (X.blk u G sc (compEnvC sc cl C X.env) fp) vx tv)
    (f0 : ∀ x, foldedSetIterable i0 X.env x = pure x := by intro _; rfl) (f1 : ∀ env x, foldedSetIterable i1 env x = pure x := by intro _ _; rfl) :
    PS X (.Assign [.Name nm py] (twoD kx vx t0 i0 t1 i1 sc ps) spos) (tAsg (tDict2 wo go wn gn tk tv (own.map (·.2)) inn) (gName i)) := by
  refine ⟨fun pins s σ H E I h => ?_⟩
  rw [exec_Assign_Name_used _ _ _ _ hsw]
  refine wpAny_bind (wpAny_standAt (wpAny_bind ?_))
  show wpAny _ X.A (do let _ ← comprehension (twoD kx vx t0 i0 t1 i1 sc ps) sc X.env (firstIterPos [⟨t0, i0, [], 0⟩, ⟨t1, i1, [], 0⟩] ps) newDict false (eval i0 X.env) (some (assign (.Name nm py) X.env))) _ _ s
  have h : tDict2 wo go wn gn tk tv (own.map (·.2)) inn σ H (fun x H1 => gName i x σ H1 E.nx) := h
  refine wpAny_bind (thn (Q := fun _ s' => SP X pins E .next s') ?_ fun _ s' hq => wpAny_pure (wpAny_pure hq))
  have frees : ∀ y ∈ sc.names, y.2 = .free → ∃ c, X.env.cells.lookup y.1 = some c := fun y hy e => (ok.free y hy e).elim (fun k => I.ok.has _ (.inl k)) fun k => I.ok.has _ (.inr k)
  refine wpAny_comprehension_free rfl f0 (closure_ok frees) ok.kind (fun y hy e => by rw [ok.uniq y hy, e]) (thn (ho.run pins s σ H _ I h) fun xv s1 hx => thn hx fun itv s2 h2 => ?_)
  obtain ⟨it, fp, tn, J, H2, rfl, I2, T, st2, fr2, q⟩ := h2
  refine wpAny_newObj_type (newEnv_comp ?_)
  generalize hD : s2.heap.objs.size = D
  have newD : H2 D = none := I2.hok.fresh (Nat.le_of_eq hD)
  obtain ⟨W, ⟨m0, w0⟩, turn⟩ := q D newD
  generalize hs3 : ({ s2 with heap := s2.heap.push { cls := .type "dict", data := .dict #[] } } : Shared) = s3
  have I3 : Inv X pins σ (upd H2 D (.dT [])) s3 := by
    subst hs3 hD
    exact I2.laid (t' := s2.toks) (fun b o e => Heap.get?_push_of_some _ e) (Nat.le_refl _) (dt_empty s2.heap I2.big)
  have h3 : s3.heap = s2.heap.push { cls := .type "dict", data := .dict #[] } := by rw [← hs3]
  have fr3 : ∀ b ∈ fp, FpOk X pins (upd H2 D (.dT [])) b ∧ b < s3.heap.objs.size := fun b hb => by
    obtain ⟨o, e, _⟩ := T.obj _ _ st2 b hb
    have lt : b < s2.heap.objs.size := Heap.lt_size e
    refine ⟨⟨?_, (fr2 b hb).2⟩, by rw [h3, Heap.size_push]; exact Nat.lt_succ_of_lt lt⟩
    rw [upd_ne (show b ≠ D by rw [← hD]; exact Nat.ne_of_lt lt)]
    exact (fr2 b hb).1
  have st3 : tn 0 s3.heap := T.keep _ _ _ st2 fun b _ o e => by rw [h3]; exact Heap.get?_push_of_some _ e
  have I4 := block_start I3 ok hN fr3
  have nofp : ∀ b ∈ fp, (upd H2 D (.dT [])) b = none := fun b hb => (fr3 b hb).1.1
  generalize hcl : cellsFrom (s3.heap.objs.size + 1) sc.names (cloFrom X.env.cells sc.names []) = cl at I4 ⊢
  have rg0 := g0 s3 (upd H2 D (.dT [])) s3.heap.objs.size cl fp
  have rn1 := n1 s3 (upd H2 D (.dT [])) s3.heap.objs.size cl fp
  have rg1 := g1 s3 (upd H2 D (.dT [])) s3.heap.objs.size cl fp
  have rk := ek s3 (upd H2 D (.dT [])) s3.heap.objs.size cl fp
  have rv := ev s3 (upd H2 D (.dT [])) s3.heap.objs.size cl fp
  show codeAny _ _ (.compStart (twoD kx vx t0 i0 t1 i1 sc ps) 0 (.ref it) (.ref D) (compEnvC sc cl s3.heap.objs.size X.env)) (compPost (model X.prog X.w) X.A X.xe (some (assign (.Name nm py) X.env)) _ (.ref D) s3.heap.objs.size) { s3 with heap := pushCells (s3.heap.push { cls := .type "dict", data := .dict #[] }) sc.names }
  generalize hce : compEnvC sc cl s3.heap.objs.size X.env = ce at I4 rg0 rn1 rg1 rk rv ⊢
  have hlo : ce.locals = s3.heap.objs.size := by subst hce; rfl
  generalize hH3 : upd H2 D (.dT []) = H3 at I3 I4 rg0 rn1 rg1 rk rv w0 nofp fr3
  generalize hs4 : ({ s3 with heap := pushCells (s3.heap.push { cls := .type "dict", data := .dict #[] }) sc.names } : Shared) = s4 at I4 ⊢
  have st4 : tn 0 s4.heap := T.keep _ _ _ st3 fun b _ o e => by subst hs4; exact pushCells_keeps _ _ _ _ (Heap.get?_push_of_some _ e)
  have still : ∀ {υ : L2.St} {G : Hp} {t : Shared}, Inv (X.blk s3 H3 sc ce fp) [] υ G t → (∀ b ∈ fp, G b = none) → ∀ b ∈ fp, FpOk (X.blk s3 H3 sc ce fp) [] G b := fun {υ G t} I' hn b hb =>
    ⟨hn b hb, (I'.ok.exf b hb).1, I'.ok.exfs b hb, .inl hb, fun x c e => (I'.ok.exf b hb).2 x c e, fun p hp => absurd (show p ∈ ([] : List (Addr × Obj)) ++ [] from hp) (by simp)⟩
  have outer : codeAny (model X.prog X.w) X.A (.compLoop (twoD kx vx t0 i0 t1 i1 sc ps) 0 (.ref it) (.ref D) ce) (compPost (model X.prog X.w) X.A X.xe (some (assign (.Name nm py) X.env)) (fun _ s' => SP X pins E .next s') (.ref D) s3.heap.objs.size) s4 := by
    refine codeAny_loop rfl (fun n t => ∃ i G, Inv (X.blk s3 H3 sc ce fp) [] (wipe σ (own.map (·.2))) G t ∧ tn i t.heap ∧ (∀ b ∈ fp, G b = none) ∧ W i n G) (fun n s5 hI => ?_) m0 ⟨0, H3, I4, st4, nofp, w0⟩
    obtain ⟨i', H5, I5, st5, n5, w5⟩ := hI
    show wpAny _ X.A ((compTurn (twoD kx vx t0 i0 t1 i1 sc ps) 0 (.ref it) (.ref D) ce).onRaise (fun x => do noteFrame x ce; theTreesLotGoes x)) _ _ s5
    refine wpAny_noted ?_
    rw [turn_outer]
    refine wpAny_bind (wpAny_standAt (wpAny_bind ?_))
    rcases turn i' n H5 w5 with ⟨stop, qq⟩ | ⟨goes, Nx, hNx, step⟩
    · refine thnF (T.done (X.blk s3 H3 sc ce fp) rfl rfl rfl hc i' [] s5 _ H5 (fun _ _ => False) I5 (still I5 n5) st5 stop) fun r s6 ⟨hr, I6⟩ => ?_
      subst hr
      refine wpAny_pure ?_
      have I7 : Inv X pins σ H5 s6 := I3.call' (ch := fp) I6.os I6.base I6.hok I6.bare fun b hb => ⟨(fr3 b hb).1.2.2.2.1, (fr3 b hb).1.2.1, (fr3 b hb).1.2.2.2.2.1, (fr3 b hb).1.2.2.2.2.2⟩
      have free : H5 ce.locals = none := I6.free
      obtain ⟨m, hn, _⟩ := I6.loc
      have hn : s6.heap.Ns ce.locals m := hn
      rw [hlo] at hn free
      obtain ⟨b0, b1, b2, b3, b4, b5⟩ := I3.fpOk (Nat.le_refl _) free
      show wpAny _ _ (assign (.Name nm py) X.env (.ref D)) _ _ _
      refine wpAny_assign_Name (store_ok2 (v := V.ref D) I7 hN hnm (.inl hloc) rfl (fun s8 I8 ⟨a, sb, ha⟩ => ?_) (.inr hloc))
      have apart : s3.heap.objs.size ≠ a := ha.elim (fun z => by rw [z]; exact b1) fun z e => b4 nm a z e.symm
      exact ⟨m, hn.sameBut sb apart, fun h9 sb9 => ⟨_, H5, I8.turned (t' := s8.toks) (fun b o hb e => (sb9.2 b hb).trans e) b0 b1 b3 b4 b5, qq⟩⟩
    · refine thnF (T.item (X.blk s3 H3 sc ce fp) rfl rfl rfl hc i' [] s5 _ H5 (fun _ _ => False) I5 (still I5 n5) st5 goes) fun r s6 ⟨u, hr, h6⟩ => ?_
      subst hr
      refine wpAny_bind (thnF h6 fun _ s7 ⟨x, H7, I7, r7, y7, st7, n7⟩ => ?_)
      have I7' := I7.pinned (still I7 n7) (T.obj _ _ st7)
      refine wpAny_bind (thnF (rg0.run _ s7 _ H7 x u _ I7' r7 (step x H7 y7)) fun _ s8 ⟨σ8, H8, I8, hw8, q8⟩ => ?_)
      have ends : ∀ {υ : L2.St} {t : Shared} {G : Hp}, Inv (X.blk s3 H3 sc ce fp) ([] ++ pinsAt fp s7.heap) υ G t → (wipe σ (own.map (·.2))).length = υ.length → (∀ (j : Nat) v, (wipe σ (own.map (·.2)))[j]? = some (some v) → υ[j]? = some (some v)) → Nx G →
          ∃ m, m < n ∧ ∃ i G, Inv (X.blk s3 H3 sc ce fp) [] (wipe σ (own.map (·.2))) G t ∧ tn i t.heap ∧ (∀ b ∈ fp, G b = none) ∧ W i m G := fun {υ t G} I' hl hk nx => by
        obtain ⟨m', hm, w'⟩ := hNx G nx
        have kept : ∀ b ∈ fp, ∀ o, s7.heap.get? b = some o → t.heap.get? b = some o ∧ G b = none := fun b hb o e =>
          let z := I'.pin (b, o) (List.mem_append_right _ (List.mem_append_right _ (mem_pinsAt hb e)))
          ⟨z.1, z.2.1⟩
        refine ⟨m', hm, i' + 1, G, (I'.unpinned (pins := [])).weak hl hk, T.keep _ _ _ st7 fun b hb o e => (kept b hb o e).1, fun b hb => ?_, w'⟩
        obtain ⟨o, e, _⟩ := T.obj _ _ st7 b hb
        exact (kept b hb o e).2
      have l8 : (wipe σ (own.map (·.2))).length = σ8.length := by rw [← hw8, wipe_length]
      have k8 : ∀ (j : Nat) v, (wipe σ (own.map (·.2)))[j]? = some (some v) → (wipe σ8 inn)[j]? = some (some v) := fun j v e => by
        rw [← hw8] at e
        obtain ⟨e1, e2⟩ := wipe_some e
        rw [wipe_out fun z => e2 (hin j z)]
        exact e1
      refine wpAny_bind (thnF (rn1.run _ s8 σ8 H8 _ I8 q8) fun xv s10 hx => ?_)
      refine wpAny_bind (wpAny_standAt (wpAny_bind (wpAny_of_eq (f1 ce xv) (wpAny_bind (wpAny_holding (thnF hx fun itv s11 h11 => ?_))))))
      obtain ⟨it1, fp1, tn1, J1, H11, rfl, I11, T1, st11, fr11, V, ⟨m1, v1⟩, turn1⟩ := h11
      have still1 : ∀ {G : Hp}, (∀ b ∈ fp1, G b = none) → ∀ b ∈ fp1, FpOk (X.blk s3 H3 sc ce fp) ([] ++ pinsAt fp s7.heap) G b := fun hn b hb => ⟨hn b hb, (fr11 b hb).2⟩
      have inner : codeAny (model X.prog X.w) X.A (.compLoop (twoD kx vx t0 i0 t1 i1 sc ps) 1 (.ref it1) (.ref D) ce)
          (fun r t => match r with
            | .ok _ => ∃ m, m < n ∧ ∃ i G, Inv (X.blk s3 H3 sc ce fp) [] (wipe σ (own.map (·.2))) G t ∧ tn i t.heap ∧ (∀ b ∈ fp, G b = none) ∧ W i m G
            | .error _ => False) s11 := by
        refine codeAny_loop rfl (fun k t => ∃ j G, Inv (X.blk s3 H3 sc ce fp) ([] ++ pinsAt fp s7.heap) (wipe σ8 inn) G t ∧ tn1 j t.heap ∧ (∀ b ∈ fp1, G b = none) ∧ V j k G) (fun k s12 hI => ?_) m1 ⟨0, H11, I11.weak (wipe_length _ _) (fun j v e => (wipe_some e).1), st11, fun b hb => (fr11 b hb).1, v1⟩
        obtain ⟨j, H12, I12, st12, n12, v12⟩ := hI
        show wpAny _ X.A ((compTurn (twoD kx vx t0 i0 t1 i1 sc ps) 1 (.ref it1) (.ref D) ce).onRaise (fun x => do noteFrame x ce; theTreesLotGoes x)) _ _ s12
        refine wpAny_noted ?_
        rw [turn_inner]
        refine wpAny_bind (wpAny_standAt (wpAny_bind ?_))
        rcases turn1 j k H12 v12 with ⟨stop1, nx1⟩ | ⟨goes1, Ny, hNy, step1⟩
        · refine thnF (T1.done (X.blk s3 H3 sc ce fp) rfl rfl rfl hc j _ s12 (wipe σ8 inn) H12 (fun _ _ => False) I12 (still1 n12) st12 stop1) fun r s13 ⟨hr, I13⟩ => ?_
          subst hr
          exact wpAny_pure (ends I13 (l8.trans (wipe_length σ8 inn).symm) k8 nx1)
        · refine thnF (T1.item (X.blk s3 H3 sc ce fp) rfl rfl rfl hc j _ s12 (wipe σ8 inn) H12 (fun _ _ => False) I12 (still1 n12) st12 goes1) fun r s13 ⟨u1, hr, h13⟩ => ?_
          subst hr
          refine wpAny_bind (thnF h13 fun _ s14 ⟨x1, H14, I14, r14, y14, st14, n14⟩ => ?_)
          have I14' := I14.pinned (still1 n14) (T1.obj _ _ st14)
          refine wpAny_bind (thnF (rg1.run _ s14 (wipe σ8 inn) H14 x1 u1 _ I14' r14 (step1 x1 H14 y14)) fun _ s15 ⟨σ15, H15, I15, hw15, q15⟩ => ?_)
          refine wpAny_bind (wpAny_bind (thnF (rk.run _ s15 σ15 H15 _ I15 q15) fun z s16 ⟨y, H16, I16, r16, q16⟩ => ?_))
          refine wpAny_bind (wpAny_holding (thnF (rv.run _ s16 σ15 H16 _ I16 q16) fun z2 s17 ⟨y2, H17, I17, r17, G7, put, ny⟩ => ?_))
          refine wpAny_bind (wpAny_standAt (wpAny_holding ?_))
          refine put_comp (X := X.blk s3 H3 sc ce fp) hu I17 put r16 r17 fun s18 I18 => ?_
          obtain ⟨m', hm, v'⟩ := hNy G7 ny
          have kept : ∀ b ∈ fp1, ∀ o, s14.heap.get? b = some o → s18.heap.get? b = some o ∧ G7 b = none := fun b hb o e =>
            let z := I18.pin (b, o) (List.mem_append_right _ (List.mem_append_right _ (mem_pinsAt hb e)))
            ⟨z.1, z.2.1⟩
          refine wpAny_pure ⟨rfl, m', hm, j + 1, G7, I18.unpinned.weak (by rw [← hw15, wipe_length]) (fun j v e => by rw [← hw15] at e; exact (wipe_some e).1), T1.keep _ _ _ st14 fun b hb o e => (kept b hb o e).1, fun b hb => ?_, v'⟩
          obtain ⟨o, e, _⟩ := T1.obj _ _ st14 b hb
          exact (kept b hb o e).2
      refine wpAny_bind (wpAny_runOwn ?_)
      rw [Around.mark_none]
      refine codeAny_mono (inner_starts inner (T1.self X.A 0 _ _ _ st11 inner)) fun r t hr => ?_
      cases r with
      | ok f => exact wpAny_pure ⟨rfl, hr⟩
      | error e => exact hr.elim
  exact codeAny_compStart_dict outer (T.self X.A 0 _ _ _ st4 outer)
end
end K1

set_option Elab.async false
set_option linter.all false
set_option maxRecDepth 100000
set_option maxHeartbeats 2000000
namespace K1
open PySem PySem.Spec PyProof.Rows L2
/-- a list or a tuple -/
def Sq2 (H : Hp) (a : Addr) (xs : List V) : Prop := H a = some (.lst xs) ∨ H a = some (.tup xs)
theorem Sq2.kept {H H' : Hp} {a : Addr} {xs : List V} (h : Sq2 H a xs) (e : ∀ o, H a = some o → H' a = some o) : Sq2 H' a xs := h.elim (fun z => .inl (e _ z)) fun z => .inr (e _ z)
theorem Sq2.same {H H' : Hp} {a : Addr} {xs : List V} (h : Sq2 H a xs) (e : Same H H') : Sq2 H' a xs := h.kept fun o z => e _ _ z
theorem Sq2.ne {H : Hp} {a D : Addr} {xs : List V} (h : Sq2 H a xs) (n : H D = none) : a ≠ D := h.elim (fun z => ne_of_none z n) fun z => ne_of_none z n
theorem Sq2.ty {K : PySem.W.Frag} {H : Hp} {a : Addr} {xs : List V} (h : Sq2 H a xs) : ∃ k, Is H (.ref a) k ∧ (isLstK k || isTupK k) = true := h.elim (fun z => ⟨_, .lst z, rfl⟩) fun z => ⟨_, .tup z, rfl⟩
section
variable {X : Cx}
def rIx2 (K : PySem.W.Frag) : R2 := fun x y H Q => ∃ p xs i v, x = .ref p ∧ y = .int i ∧ Sq2 H p xs ∧ atI xs i = some v ∧ Q v H
theorem ix_two : IxR X (rIx2 X.K) := by
  intro value slice pins s σ H x y v u Q I rx ry h hs
  obtain ⟨p, xs, i, z, e1, e2, hq, he, q⟩ := h
  rcases hq with hq | hq
  · exact ix_list value slice pins s σ H x y v u Q I rx ry ⟨p, xs, i, z, e1, e2, SqL.of hq, he, q⟩ hs
  · exact ix_tup value slice pins s σ H x y v u Q I rx ry ⟨p, xs, i, z, e1, e2, SqT.of hq, he, q⟩ hs
theorem call_len2 : CallR X (.builtin "len") (fun vs H Q => ∃ p xs, vs = [V.ref p] ∧ Sq2 H p xs ∧ Q (.int xs.length) H) := by
  intro pins s σ H xs us Q I r h
  obtain ⟨p, ys, e, hq, q⟩ := h
  refine call_len_seq pins s σ H xs us Q I r ⟨p, ys, e, ?_, q⟩
  exact hq.elim (fun z => .inl (SqL.of z)) fun z => .inr (SqT.of z)
end
/-- a comprehension over a list or a tuple -/
theorem lc_two {K : PySem.W.Frag} {i : Nat} {a : Addr} {xs : List V} {g : TG} {tt : TT} {te : TE} {vs : List Nat} {σ : L2.St} {H1 : Hp} {Q : VK} (hσ : σ[i]? = some (some (.ref a))) (hL : Sq2 H1 a xs)
    (body : ∀ D, H1 D = none → ∃ Pv : Nat → Hp → Prop, Pv 0 (upd H1 D (.lst [])) ∧ (∀ i H o, Pv i H → H1 a = some o → H a = some o) ∧
      (∀ i x H, xs[i]? = some x → Pv i H → g x (wipe σ vs) H fun σ2 H2 => wipe σ2 vs = wipe σ vs ∧ tt σ2 H2 fun b H3 => if b = true then te σ2 H3 fun y H4 => ∃ acc, H4 D = some (.lst acc) ∧ acc.length < sizeLine ∧ Pv (i + 1) (upd H4 D (.lst (acc ++ [y]))) else Pv (i + 1) H3) ∧
      ∀ H, Pv xs.length H → Q (.ref D) H) : tLc (fun σ H R => iList K (tVar i) σ H R ∨ iTup K (tVar i) σ H R) g tt te vs σ H1 Q := by
  rcases hL with hL | hL
  · refine .inl ⟨_, hσ, a, rfl, ⟨_, SqL.of hL⟩, fun D nD => ?_⟩
    obtain ⟨Pv, p0, pk, ps, pe⟩ := body D nD
    exact lc_list Pv p0 (fun j H _ p => SqL.of (pk j H _ p hL)) ps pe
  · refine .inr ⟨_, hσ, a, rfl, ⟨_, SqT.of hL⟩, fun D nD => ?_⟩
    obtain ⟨Pv, p0, pk, ps, pe⟩ := body D nD
    exact lc_tup Pv p0 (fun j H _ p => SqT.of (pk j H _ p hL)) ps pe
/-- the inner walk of a dict comprehension, over a tuple -/
theorem inner_tup {K : PySem.W.Frag} {D : Addr} {j : Nat} {b : Addr} {ys : List V} {gn : TG} {tk tv : TE} {inn : List Nat} {τ : L2.St} {H2 : Hp} {Nx : Hp → Prop} (Pw : Nat → Hp → Prop) (ht : τ[j]? = some (some (.ref b))) (hb : H2 b = some (.tup ys)) (p0 : Pw 0 H2) (pk : ∀ k H o, Pw k H → H2 b = some o → H b = some o)
    (ps : ∀ k y H, ys[k]? = some y → Pw k H → gn y (wipe τ inn) H fun υ H4 => wipe υ inn = wipe τ inn ∧ tk υ H4 fun y H5 => tv υ H5 fun z H6 => ∃ H7, DPut H6 D y z H7 ∧ Pw (k + 1) H7) (pe : ∀ H, Pw ys.length H → Nx H) :
    iTup K (tVar j) τ H2 fun J1 G3 => ∃ V : Nat → Nat → Hp → Prop, (∃ m, V 0 m G3) ∧ ∀ j k G, V j k G → (J1.stop j G ∧ Nx G) ∨ (J1.go j G ∧ ∃ Ny : Hp → Prop, (∀ G', Ny G' → ∃ k', k' < k ∧ V (j + 1) k' G') ∧
        ∀ x G', J1.yld j G x G' → gn x (wipe τ inn) G' fun υ G4 => wipe υ inn = wipe τ inn ∧ tk υ G4 fun y G5 => tv υ G5 fun z G6 => ∃ G7, DPut G6 D y z G7 ∧ Ny G7) := by
  refine ⟨_, ht, b, rfl, ⟨_, SqT.of hb⟩, fun k m H => m = ys.length - k ∧ k ≤ ys.length ∧ Pw k H, ⟨ys.length, by simp, Nat.zero_le _, p0⟩, ?_⟩
  rintro k m G ⟨rfl, hk, p⟩
  have hq := SqT.of (K := K) (pk k G _ p hb)
  by_cases hlt : k < ys.length
  · refine .inr ⟨⟨ys, ys[k], hq, by simp [hlt]⟩, Pw (k + 1), fun G' p' => ⟨ys.length - (k + 1), by omega, rfl, hlt, p'⟩, fun x G' y => ?_⟩
    obtain ⟨e, y⟩ := y
    subst e
    exact ps k x _ (y ys hq) p
  · have e : k = ys.length := by omega
    subst e
    exact .inl ⟨⟨ys, hq, Nat.le_refl _⟩, pe G p⟩
/-- the walk of a dict comprehension's outer source, a list or a tuple -/
theorem dict_two {K : PySem.W.Frag} {i : Nat} {a : Addr} {xs : List V} {go gn : TG} {wn : TI} {tk tv : TE} {all inn : List Nat} {σ : L2.St} {H1 : Hp} {Q : VK} (hσ : σ[i]? = some (some (.ref a))) (hL : Sq2 H1 a xs)
    (body : ∀ D, H1 D = none → ∃ Pv : Nat → Hp → Prop, Pv 0 (upd H1 D (.dT [])) ∧ (∀ i H o, Pv i H → H1 a = some o → H a = some o) ∧
      (∀ i x H, xs[i]? = some x → Pv i H → go x (wipe σ all) H fun τ H2 => wipe τ all = wipe σ all ∧ wn τ H2 fun J1 G3 => ∃ V : Nat → Nat → Hp → Prop, (∃ m, V 0 m G3) ∧ ∀ j k G, V j k G → (J1.stop j G ∧ Pv (i + 1) G) ∨ (J1.go j G ∧ ∃ Ny : Hp → Prop, (∀ G', Ny G' → ∃ k', k' < k ∧ V (j + 1) k' G') ∧
        ∀ x G', J1.yld j G x G' → gn x (wipe τ inn) G' fun υ G4 => wipe υ inn = wipe τ inn ∧ tk υ G4 fun y G5 => tv υ G5 fun z G6 => ∃ G7, DPut G6 D y z G7 ∧ Ny G7)) ∧
      ∀ H, Pv xs.length H → Q (.ref D) H) : tDict2 (fun σ H R => iList K (tVar i) σ H R ∨ iTup K (tVar i) σ H R) go wn gn tk tv all inn σ H1 Q := by
  rcases hL with hL | hL
  · refine .inl ⟨_, hσ, a, rfl, ⟨_, SqL.of hL⟩, fun D nD => ?_⟩
    obtain ⟨Pv, p0, pk, ps, pe⟩ := body D nD
    refine ⟨fun i m H => m = xs.length - i ∧ i ≤ xs.length ∧ Pv i H, ⟨xs.length, by simp, Nat.zero_le _, p0⟩, ?_⟩
    rintro i m H ⟨rfl, hi, p⟩
    have hq := SqL.of (K := K) (pk i H _ p hL)
    by_cases hlt : i < xs.length
    · refine .inr ⟨⟨xs, xs[i], hq, by simp [hlt]⟩, Pv (i + 1), fun H' p' => ⟨xs.length - (i + 1), by omega, rfl, hlt, p'⟩, fun x H' y => ?_⟩
      obtain ⟨e, y⟩ := y
      subst e
      exact ps i x _ (y xs hq) p
    · have e : i = xs.length := by omega
      subst e
      exact .inl ⟨⟨xs, hq, Nat.le_refl _⟩, pe H p⟩
  · refine .inr ⟨_, hσ, a, rfl, ⟨_, SqT.of hL⟩, fun D nD => ?_⟩
    obtain ⟨Pv, p0, pk, ps, pe⟩ := body D nD
    refine ⟨fun i m H => m = xs.length - i ∧ i ≤ xs.length ∧ Pv i H, ⟨xs.length, by simp, Nat.zero_le _, p0⟩, ?_⟩
    rintro i m H ⟨rfl, hi, p⟩
    have hq := SqT.of (K := K) (pk i H _ p hL)
    by_cases hlt : i < xs.length
    · refine .inr ⟨⟨xs, xs[i], hq, by simp [hlt]⟩, Pv (i + 1), fun H' p' => ⟨xs.length - (i + 1), by omega, rfl, hlt, p'⟩, fun x H' y => ?_⟩
      obtain ⟨e, y⟩ := y
      subst e
      exact ps i x _ (y xs hq) p
    · have e : i = xs.length := by omega
      subst e
      exact .inl ⟨⟨xs, hq, Nat.le_refl _⟩, pe H p⟩
end K1

set_option Elab.async false
set_option linter.all false
set_option maxRecDepth 100000
set_option maxHeartbeats 2000000
namespace K1
open PySem PySem.Spec PyProof.Rows L2
abbrev sLinks : Stmt := topS 23
theorem scLinks : FnScope ["links", "many", "taken", "link", "at", "place"] ["links", "many"] (defScope sLinks) := ⟨rfl, rfl, rfl, by decide +kernel, rfl, by decide +kernel, by decide +kernel⟩
/-- all ends of some links, in their order -/
def plsOf (ls : List (Pl × Pl)) : List Pl := ls.flatMap fun p => [p.1, p.2]
theorem plsOf_app (ls : List (Pl × Pl)) (p : Pl × Pl) : plsOf (ls ++ [p]) = plsOf ls ++ [p.1] ++ [p.2] := by
  unfold plsOf
  rw [List.flatMap_append]
  simp
theorem plsOf_len : ∀ ls : List (Pl × Pl), (plsOf ls).length = 2 * ls.length
  | [] => rfl
  | p :: r => by
    have := plsOf_len r
    unfold plsOf at this ⊢
    rw [List.flatMap_cons, List.length_append, this]
    simp only [List.length_cons, List.length_nil]
    omega
/-- < of two links, as the program has it -/
def ltL (p q : Pl × Pl) : Bool := if [p.1.1, p.1.2] = [q.1.1, q.1.2] then HT.lexLt [p.2.1, p.2.2] [q.2.1, q.2.2] else HT.lexLt [p.1.1, p.1.2] [q.1.1, q.1.2]
def ltAt (ls : List (Pl × Pl)) (i : Nat) : Bool := match ls[i]?, ls[i + 1]? with
  | some p, some q => ltL p q
  | _, _ => true
def ascL (ls : List (Pl × Pl)) : Bool := ((List.range (ls.length - 1)).map (ltAt ls)).all id
def okL (ls : List (Pl × Pl)) : Bool := ascL ls && decide (plsOf ls).Nodup
theorem put_len {κ : Type} [DecidableEq κ] (kvs : List (κ × V)) (k : κ) (v : V) : (putK kvs k v).length = if (valV kvs k).isSome then kvs.length else kvs.length + 1 := by
  unfold putK
  rw [valV_any]
  split
  · rw [List.length_map]
  · rw [List.length_append]; rfl
/-- the keys of the dict are these places, and as many as there are different ones -/
structure Cnt (kvs : List (List Key × V)) (es : List Pl) : Prop where
  mem : ∀ q : Pl, (valV kvs (pK q)).isSome = true ↔ q ∈ es
  le : kvs.length ≤ es.length
  nd : kvs.length = es.length ↔ es.Nodup
theorem Cnt.nil : Cnt [] [] := ⟨fun q => by simp [valV_nil], Nat.le_refl _, by simp⟩
theorem Cnt.put {kvs : List (List Key × V)} {es : List Pl} {q : Pl} (v : V) (h : Cnt kvs es) : Cnt (putK kvs (pK q) v) (es ++ [q]) := by
  have hm := h.mem q
  have hle := h.le
  have hl := put_len kvs (pK q) v
  have hnd : (es ++ [q]).Nodup ↔ es.Nodup ∧ q ∉ es := by
    rw [List.nodup_append]
    constructor
    · rintro ⟨h1, _, h3⟩
      exact ⟨h1, fun z => h3 q z q (by simp) rfl⟩
    · rintro ⟨h1, h2⟩
      refine ⟨h1, by simp, fun a ha b hb e => ?_⟩
      have : b = q := by simpa using hb
      rw [e, this] at ha
      exact h2 ha
  refine ⟨fun r => ?_, ?_, ?_⟩
  · rw [valV_put]
    by_cases e : r = q
    · subst e
      simp
    · rw [if_neg (fun z => e (pK_inj.mp z)), h.mem r]
      simp [e]
  · rw [List.length_append, List.length_singleton, hl]
    split <;> omega
  · rw [List.length_append, List.length_singleton, hl, hnd, ← h.nd]
    by_cases hq : q ∈ es
    · rw [if_pos (hm.mpr hq)]
      constructor
      · intro z; omega
      · rintro ⟨_, z⟩; exact absurd hq z
    · rw [if_neg (fun z => hq (hm.mp z))]
      constructor
      · intro z; exact ⟨by omega, hq⟩
      · rintro ⟨z, _⟩; omega
theorem ix_twoK {X : Cx} (K : PySem.W.Frag) (hK : X.K = K := by rfl) : IxR X (rIx2 K) := hK ▸ ix_two
theorem op_ltLLK {X : Cx} (K : PySem.W.Frag) (hu : X.A.units + 64 < cLine) (hK : X.K = K := by rfl) : OpR X (compareOp .Lt) (rLtLL K) := hK ▸ op_ltLL hu
/-- what some links are -/
structure LinksV (H : Hp) (n : Nat) (xs : List V) (r : Bool) : Prop where
  len : xs.length ≤ 200
  is : ∃ fs : List Bool, fs.length = xs.length ∧ (∀ (i : Nat) x b, xs[i]? = some x → fs[i]? = some b → LkV H n x b) ∧
    ((fs.all id = false ∧ r = false) ∨ (fs.all id = true ∧ ∃ ls : List (Pl × Pl), ls.length = xs.length ∧ (∀ (i : Nat) x p, xs[i]? = some x → ls[i]? = some p → ∃ o1 o2, LkF H x o1 o2 p) ∧ r = okL ls))
theorem PlV.same {H H' : Hp} {n : Nat} {x : V} {b : Bool} (h : PlV H n x b) (e : Same H H') : PlV H' n x b := by
  cases h with
  | no h hk => exact .no (h.same e) hk
  | len h hl => exact .len (e _ _ h) hl
  | two h hc he => exact .two (e _ _ h) (hc.same e) (he.same e)
theorem LkV.same {H H' : Hp} {n : Nat} {x : V} {b : Bool} (h : LkV H n x b) (e : Same H H') : LkV H' n x b := by
  cases h with
  | no h hk => exact .no (h.same e) hk
  | len h hl => exact .len (e _ _ h) hl
  | bad1 h h1 => exact .bad1 (e _ _ h) (h1.same e)
  | bad2 h h1 h2 => exact .bad2 (e _ _ h) (h1.same e) (h2.same e)
  | good h h1 h2 p1 p2 => exact .good (e _ _ h) (e _ _ h1) (e _ _ h2) p1 p2
theorem LinksV.same {H H' : Hp} {n : Nat} {xs : List V} {r : Bool} (h : LinksV H n xs r) (e : Same H H') : LinksV H' n xs r := by
  obtain ⟨hl, fs, f1, f2, f3⟩ := h
  refine ⟨hl, fs, f1, fun i x b h1 h2 => (f2 i x b h1 h2).same e, ?_⟩
  rcases f3 with f3 | ⟨f3, ls, g1, g2, g3⟩
  · exact .inl f3
  · refine .inr ⟨f3, ls, g1, fun i x p h1 h2 => ?_, g3⟩
    obtain ⟨o1, o2, z⟩ := g2 i x p h1 h2
    exact ⟨o1, o2, z.kept e⟩
section
variable {P : Program} {w : World} {K : PySem.W.Frag} {mg : Str → Option Value} {base : Heap}
def spLinks : Sp := fun vs H Q _ => ∃ (Lk : Addr) (n : Nat) (xs : List V) (r : Bool), vs = [.ref Lk, .int (n : Int)] ∧ Sq2 H Lk xs ∧ LinksV H n xs r ∧ ∀ H', Same H H' → Q (.bl r) H'
theorem ok_links {f fL fP fI : Addr} {fd fdL fdP fdI : FuncData} (F : Fun K "are_links" "are_links" sLinks f fd) (dL : D K mg "_is_link" sLink ["thing", "many"] fL fdL) (dP : D K mg "_is_place" sPlace ["thing", "many"] fP fdP) (dI : D K mg "is_int" sIsInt ["thing"] fI fdI)
    (Bt : Bi mg) (mi : mg "int" = none) (mb : mg "bool" = none) (mr : mg "range" = none) : FnOk P w K mg base CX0 4 f fd ["links", "many"] spLinks := by
  have GL : FnOk P w K mg base CX0 3 fL fdL ["thing", "many"] spLink := ok_link dL.F dP dI Bt mi mb
  refine F.ok scLinks (fun vs H Q E h => ?_) (fun cdv A outer s H vs Q E hr h => ?_)
  · obtain ⟨Lk, n, xs, r, rfl, _⟩ := h
    rfl
  · obtain ⟨Lk, n, xs, r, rfl, hL, hV, q⟩ := h
    have hu1 : (A.deeper (envOfC "are_links" (defScope sLinks) s.heap.objs.size f cdv)).units + 64 < cLine := h64_of hr
    have hu2 : (A.deeper (envOfC "are_links" (defScope sLinks) s.heap.objs.size f cdv)).units < cLine := by omega
    refine ⟨_, pss_cons (ps_if (pt_not (pt_val (pe_callB (cr_all rfl) (by rfl) Bt.all boot_all (pa_cons
          (pe_lc (own := [("link", 3)]) (g := gName 3) (tt := tYes) rfl scLinks.nd (pi_two (pi_list (pv 0)) (pi_tup (pv 0))) (blkOk_by (own := [("link", 3)]) (N := ["links", "many", "taken", "link", "at", "place"]) (sc := defScope sLinks) (by decide +kernel))
            (fun _ _ _ _ _ => pg_name (i := 3) scLinks.nd rfl (Or.inl rfl)) (fun _ _ _ _ _ => pts_nil)
            (fun _ _ _ _ _ => pe_call GL hr (by rfl) dL.m dL.F.kp dL.b .nil pass0 (pa_cons (pv 3) (pa_cons (pv 1) pa_nil)))) pa_nil)))) (pss_one (ps_ret pe_bl)) pss_nil)
      (pss_cons (ps_if (pt_not (pt_val (pe_callB (cr_all rfl) (by rfl) Bt.all boot_all (pa_cons
          (pe_lc (own := [("at", 4)]) (g := gName 4) (tt := tYes) rfl scLinks.nd (pi_range1 rfl mr (pa_cons (pe_op op_sub (pe_callB call_len2 (by rfl) Bt.len PySem.boot_len (pa_cons (pv 0) pa_nil)) pe_int) pa_nil)) (blkOk_by (own := [("at", 4)]) (N := ["links", "many", "taken", "link", "at", "place"]) (sc := defScope sLinks) (by decide +kernel))
            (fun _ _ _ _ _ => pg_name (i := 4) scLinks.nd rfl (Or.inl rfl)) (fun _ _ _ _ _ => pts_nil)
            (fun _ _ _ _ _ => pe_cmpR (op_ltLLK K hu1) (pe_ix (ix_twoK K) (pv 0) (pv 4) (fun _ _ => rfl)) (pe_ix (ix_twoK K) (pv 0) (pe_op op_add (pv 4) pe_int) (fun _ _ => rfl)) (nomark _))) pa_nil)))) (pss_one (ps_ret pe_bl)) pss_nil)
      (pss_cons (set_dict2 (i := 2) (own := [("link", 3), ("place", 5)]) (inn := [5]) (go := gName 3) (gn := gName 5) (wn := iTup K (tVar 3)) rfl scLinks.nd hu2 rfl rfl (by rfl) (pi_two (pi_list (pv 0)) (pi_tup (pv 0)))
          (blkOk_by (own := [("link", 3), ("place", 5)]) (N := ["links", "many", "taken", "link", "at", "place"]) (sc := defScope sLinks) (by decide +kernel)) (by decide)
          (fun _ _ _ _ _ => pg_name (i := 3) scLinks.nd rfl (Or.inl rfl)) (fun _ _ _ _ _ => pi_tup (pv 3)) (fun _ _ _ _ _ => pg_name (i := 5) scLinks.nd rfl (Or.inl rfl)) (fun _ _ _ _ _ => pv 5) (fun _ _ _ _ _ => pe_bl))
      (pss_one (ps_ret (pe_cmpR op_eq (pe_callB call_len_dT (by rfl) Bt.len PySem.boot_len (pa_cons (pv 2) pa_nil)) (pe_op op_mul pe_int (pe_callB call_len2 (by rfl) Bt.len PySem.boot_len (pa_cons (pv 0) pa_nil))) (nomark _)))))), ?_⟩
    obtain ⟨hlen, fs, f1, f2, f3⟩ := hV
    delta tSeq tIfS tNot tB tCB tCons
    refine lc_two (K := K) (i := 0) (a := Lk) rfl hL fun L nL => ⟨fun i H2 => H2 L = some (.lst ((fs.take i).map V.bl)) ∧ ∀ c o, c ≠ L → H c = some o → H2 c = some o, ⟨upd_same, fun c o n e => by rw [upd_ne n]; exact e⟩, fun i H2 o p e => p.2 _ _ (ne_of_none e nL) e, ?_, ?_⟩
    · rintro i x H2 hx ⟨g1, g2⟩
      have hi : i < xs.length := (List.getElem?_eq_some_iff.mp hx).1
      obtain ⟨b, hb⟩ : ∃ b, fs[i]? = some b := ⟨_, List.getElem?_eq_getElem (by omega)⟩
      have s2 : Same H H2 := fun c o e => g2 c o (ne_of_none e nL) e
      refine ⟨rfl, _, rfl, _, rfl, x, n, b, rfl, (f2 i x b hx hb).same s2, _, g1, ?_, ?_, fun c o n e => by rw [upd_ne n]; exact g2 c o n e⟩
      · rw [List.length_map, List.length_take]
        exact small1000 (by omega)
      · rw [upd_same, List.take_add_one, hb, List.map_append]
        rfl
    rintro H1 ⟨g1, g2⟩
    have s1 : Same H H1 := fun c o e => g2 c o (ne_of_none e nL) e
    rw [← f1, List.take_length] at g1
    clear g2
    refine ⟨L, _, rfl, SqL.of g1, _, rfl, ?_⟩
    rcases f3 with ⟨hf, rfl⟩ | ⟨hf, ls, l1, l2, rfl⟩
    · rw [hf]
      exact q H1 s1
    rw [hf]
    show if (!true) = true then _ else _
    rw [if_neg (by decide)]
    have hL1 := hL.same s1
    have l2' : ∀ (i : Nat) x p, xs[i]? = some x → ls[i]? = some p → ∃ o1 o2, LkF H1 x o1 o2 p := fun i x p a b => by
      obtain ⟨o1, o2, z⟩ := l2 i x p a b
      exact ⟨o1, o2, z.kept s1⟩
    have item : ∀ {G : Hp} {i : Nat}, Same H1 G → i < xs.length → ∃ t o1 o2 p, xs[i]? = some (.ref t) ∧ ls[i]? = some p ∧ G t = some (.tup [.ref o1, .ref o2]) ∧ G o1 = some (.tup ((pK p.1).map kV)) ∧ G o2 = some (.tup ((pK p.2).map kV)) := fun {G i} sg hi => by
      obtain ⟨x, hx⟩ : ∃ x, xs[i]? = some x := ⟨_, List.getElem?_eq_getElem hi⟩
      obtain ⟨p, hp⟩ : ∃ p, ls[i]? = some p := ⟨_, List.getElem?_eq_getElem (by omega)⟩
      obtain ⟨o1, o2, z⟩ := l2' i x p hx hp
      obtain ⟨t, rfl, t1, t2, t3⟩ := z.kept sg
      exact ⟨t, o1, o2, p, hx, hp, t1, t2, t3⟩
    have hn1 : ((xs.length : Int) - 1).toNat = ls.length - 1 := by omega
    refine ⟨_, rfl, Lk, xs, rfl, hL1, _, _, rfl, rfl, ((xs.length : Int) - 1), rfl, by omega, by omega, fun M nM => ?_⟩
    refine lc_range (lo := 0) (n := ((xs.length : Int) - 1).toNat) (fun i G => G M = some (.lst (((List.range i).map (ltAt ls)).map V.bl)) ∧ ∀ c o, c ≠ M → H1 c = some o → G c = some o) ⟨upd_same, fun c o n e => by rw [upd_ne n]; exact e⟩ ?_ ?_
    · rintro i G hi ⟨g1, g2⟩
      have sg : Same H1 G := fun c o e => g2 c o (ne_of_none e nM) e
      obtain ⟨t, o1, o2, p, x1, p1, t1, t2, t3⟩ := item sg (show i < xs.length by omega)
      obtain ⟨u, o3, o4, p', x2, p2, u1, u2, u3⟩ := item sg (show i + 1 < xs.length by omega)
      have hG := hL1.same sg
      refine ⟨rfl, _, rfl, _, rfl, Lk, xs, _, .ref t, rfl, rfl, hG, at_of (j := i) (by omega) x1, _, rfl, _, rfl, _, _, rfl, rfl, Lk, xs, _, .ref u, rfl, rfl, hG, at_of (j := i + 1) (by omega) x2, ?_⟩
      refine ⟨t, u, o1, o2, o3, o4, [p.1.1, p.1.2], [p.2.1, p.2.2], [p'.1.1, p'.1.2], [p'.2.1, p'.2.2], rfl, rfl, SqT.of t1, SqT.of u1, SqT.of t2, SqT.of t3, SqT.of u2, SqT.of u3, _, g1, ?_, ?_, fun c o n e => by rw [upd_ne n]; exact g2 c o n e⟩
      · rw [List.length_map, List.length_map, List.length_range]
        exact small1000 (by omega)
      · rw [upd_same, List.range_succ, List.map_append, List.map_append]
        have : ltAt ls i = (if [p.1.1, p.1.2] = [p'.1.1, p'.1.2] then HT.lexLt [p.2.1, p.2.2] [p'.2.1, p'.2.2] else HT.lexLt [p.1.1, p.1.2] [p'.1.1, p'.1.2]) := by
          unfold ltAt
          rw [p1, p2]
          rfl
        rw [← this]
        rfl
    rintro H2 ⟨g1, g2⟩
    have s2 : Same H1 H2 := fun c o e => g2 c o (ne_of_none e nM) e
    rw [hn1] at g1
    refine ⟨M, _, rfl, SqL.of g1, _, rfl, ?_⟩
    have okA : okL ls = (ascL ls && decide (plsOf ls).Nodup) := rfl
    cases ha : ascL ls with
    | false =>
      have e : (((List.range (ls.length - 1)).map (ltAt ls)).all id) = false := ha
      rw [e]
      rw [okA, ha] at q
      exact q H2 (s1.trans s2)
    | true =>
    have e : (((List.range (ls.length - 1)).map (ltAt ls)).all id) = true := ha
    rw [e]
    show if (!true) = true then _ else _
    rw [if_neg (by decide)]
    rw [okA, ha, Bool.true_and] at q
    delta tNext tAsg
    dsimp only
    refine dict_two (K := K) (i := 0) (a := Lk) rfl (hL1.same s2) fun T nT => ⟨fun i G => ∃ kvs, G T = some (.dT kvs) ∧ Cnt kvs (plsOf (ls.take i)) ∧ ∀ c o, c ≠ T → H2 c = some o → G c = some o,
      ⟨[], upd_same, Cnt.nil, fun c o n e => by rw [upd_ne n]; exact e⟩, fun i G o ⟨_, _, _, k⟩ e => k _ _ (ne_of_none e nT) e, ?_, ?_⟩
    · rintro i x G hx ⟨kvs, g1, g2, g3⟩
      have hi : i < xs.length := (List.getElem?_eq_some_iff.mp hx).1
      obtain ⟨t, o1, o2, p, x1, p1, t1, t2, t3⟩ := item s2 hi
      rw [hx] at x1
      cases x1
      have tn : t ≠ T := ne_of_none t1 nT
      refine ⟨rfl, inner_tup (K := K) (b := t) (ys := [.ref o1, .ref o2]) (fun k G' => ∃ kvs, G' T = some (.dT kvs) ∧ Cnt kvs (plsOf (ls.take i) ++ ([p.1, p.2].take k)) ∧ ∀ c o, c ≠ T → H2 c = some o → G' c = some o) rfl (g3 _ _ tn t1)
        ⟨kvs, g1, by rw [List.take_zero, List.append_nil]; exact g2, g3⟩ (fun k G' o ⟨_, _, _, k3⟩ e => ?_) ?_ ?_⟩
      · rw [g3 _ _ tn t1] at e
        cases e
        exact k3 _ _ tn t1
      · rintro k y G' hy ⟨kvs', k1, k2, k3⟩
        have lk := k2.le
        rw [List.length_append, List.length_take, plsOf_len, List.length_take] at lk
        rw [show ([p.1, p.2] : List Pl).length = 2 from rfl] at lk
        have small : kvs'.length < sizeLine := small1000 (by omega)
        match k, hy with
        | 0, hy =>
          cases hy
          refine ⟨rfl, _, rfl, _, DPut.t (k := pK p.1) k1 (k3 _ _ (ne_of_none t2 nT) t2) small, _, upd_same, ?_, fun c o n e => by rw [upd_ne n]; exact k3 c o n e⟩
          have := k2.put (q := p.1) (V.bl true)
          rw [List.take_zero, List.append_nil] at this
          exact this
        | 1, hy =>
          cases hy
          refine ⟨rfl, _, rfl, _, DPut.t (k := pK p.2) k1 (k3 _ _ (ne_of_none t3 nT) t3) small, _, upd_same, ?_, fun c o n e => by rw [upd_ne n]; exact k3 c o n e⟩
          have := k2.put (q := p.2) (V.bl true)
          rw [List.append_assoc] at this
          exact this
      · rintro G' ⟨kvs', k1, k2, k3⟩
        refine ⟨kvs', k1, ?_, k3⟩
        rw [List.take_add_one, p1]
        show Cnt kvs' (plsOf (ls.take i ++ [p]))
        rw [plsOf_app, List.append_assoc]
        exact k2
    · rintro G ⟨kvs, g1, g2, g3⟩
      have s3 : Same H2 G := fun c o e => g3 c o (ne_of_none e nT) e
      rw [← l1, List.take_length] at g2
      refine ⟨_, rfl, T, kvs, rfl, g1, _, rfl, Lk, xs, rfl, (hL1.same s2).same s3, _, _, rfl, rfl, .inl ⟨by decide, by decide⟩, rfl, ?_⟩
      have hd : decide (V.int ((kvs.length : Nat) : Int) = V.int (2 * (xs.length : Int))) = decide (plsOf ls).Nodup := by
        have h1 := g2.nd
        rw [plsOf_len, l1] at h1
        by_cases hn : (plsOf ls).Nodup
        · rw [decide_eq_true hn, decide_eq_true]
          have := h1.mpr hn
          rw [this]
          simp
        · rw [decide_eq_false hn, decide_eq_false]
          intro z
          have := V.int.inj z
          exact hn (h1.mp (by omega))
      have z := q G ((s1.trans s2).trans s3)
      rw [← hd] at z
      exact z
end
end K1

set_option Elab.async false
set_option linter.all false
set_option maxRecDepth 100000
set_option maxHeartbeats 2000000
namespace K1
open PySem PySem.Spec PyProof.Rows L2
abbrev sLinked : Stmt := topS 31
theorem scLinked : FnScope ["blocks", "links"] ["blocks", "links"] (defScope sLinked) := ⟨rfl, rfl, rfl, by decide +kernel, rfl, by decide +kernel, by decide +kernel⟩
/-- whether a value is links that connect n copies -/
inductive LnV (H : Hp) (n : Nat) : V → Bool → Prop
  | no {y : V} {k : Kd} (h : Is H y k) (h1 : isLstK k = false) (h2 : isTupK k = false) : LnV H n y false
  | bad {a : Addr} {xs : List V} (h : Sq2 H a xs) (hv : LinksV H n xs false) : LnV H n (.ref a) false
  | good {a : Addr} {xs : List V} {ls : List (Nat × Nat)} {r : Bool} (h : Sq2 H a xs) (hv : LinksV H n xs true) (hl : xs.length = ls.length) (hk : ∀ (i : Nat) x p, xs[i]? = some x → ls[i]? = some p → LkAt H x p) (hb : ∀ p ∈ ls, p.1 < n ∧ p.2 < n)
      (hr : ∀ near, Rows n ls near → (r = true ↔ ∀ v < n, Reach near 0 v)) : LnV H n (.ref a) r
theorem Sq2.is {H : Hp} {a : Addr} {xs : List V} (h : Sq2 H a xs) : ∃ k, Is H (.ref a) k ∧ (isLstK k || isTupK k) = true := by
  rcases h with h | h
  · exact ⟨_, .lst h, rfl⟩
  · exact ⟨_, .tup h, rfl⟩
theorem LnV.same {H H' : Hp} {n : Nat} {y : V} {r : Bool} (h : LnV H n y r) (e : Same H H') : LnV H' n y r := by
  cases h with
  | no h h1 h2 => exact .no (h.same e) h1 h2
  | bad h hv => exact .bad (h.same e) (hv.same e)
  | good h hv hl hk hb hr => exact .good (h.same e) (hv.same e) hl (fun i x p h1 h2 => (hk i x p h1 h2).kept fun a xs z => e _ _ z) hb hr
section
variable {P : Program} {w : World} {K : PySem.W.Frag} {mg : Str → Option Value} {base : Heap}
def spLinked : Sp := fun vs H Q _ => ∃ (Bk : Addr) (bs : List V) (y : V) (r : Bool), vs = [.ref Bk, y] ∧ Sq2 H Bk bs ∧ LnV H bs.length y r ∧ 1 ≤ bs.length ∧ bs.length ≤ 900 ∧ ∀ H', Same H H' → Q (.bl r) H'
theorem ok_linked {f fA fS fR : Addr} {fd fdA fdS fdR : FuncData} (F : Fun K "_are_linked" "_are_linked" sLinked f fd) (dA : D K mg "are_links" sLinks ["links", "many"] fA fdA) (GA : FnOk P w K mg base CX0 4 fA fdA ["links", "many"] spLinks)
    (dS : D K mg "parts_of" sParts ["many", "links"] fS fdS) (GS : FnOk P w K mg base CX0 2 fS fdS ["many", "links"] spParts) (Bt : Bi mg) : FnOk P w K mg base CX0 5 f fd ["blocks", "links"] spLinked := by
  refine F.ok scLinked (fun vs H Q E h => ?_) (fun cdv A outer s H vs Q E hr h => ?_)
  · obtain ⟨Bk, bs, y, r, rfl, _⟩ := h
    rfl
  · obtain ⟨Bk, bs, y, r, rfl, hB, hV, n1, n9, q⟩ := h
    refine ⟨_, pss_cons (ps_if (PW.pt (pw_or (pt_not (pt_val (pe_callB call_isiT (by rfl) Bt.isi boot_isinstance (pa_cons (pv 1) (pa_cons (pe_tup (pa_cons (pe_bltn (by rfl) Bt.list boot_list (v := .ty "list") rfl) (pa_cons (pe_bltn (by rfl) Bt.tuple boot_tuple (v := .ty "tuple") rfl) pa_nil))) pa_nil)))))
        (pw_or1 (pt_not (pt_val (pe_call GA hr (by rfl) dA.m dA.F.kp dA.b .nil pass0 (pa_cons (pv 1) (pa_cons (pe_callB call_len2 (by rfl) Bt.len PySem.boot_len (pa_cons (pv 0) pa_nil)) pa_nil)))))))) (pss_one (ps_ret pe_bl)) pss_nil)
      (pss_one (ps_ret (pe_cmpR op_eq (pe_callB call_len2 (by rfl) Bt.len PySem.boot_len (pa_cons (pe_call GS (hr.mono (by decide)) (by rfl) dS.m dS.F.kp dS.b .nil pass0 (pa_cons (pe_callB call_len2 (by rfl) Bt.len PySem.boot_len (pa_cons (pv 0) pa_nil)) (pa_cons (pv 1) pa_nil))) pa_nil)) pe_int (nomark _)))), ?_⟩
    refine ⟨_, rfl, Nat.le_of_lt (small1000 (n := 2) (by decide)), fun T nT => ?_⟩
    have s1 : Same H (upd H T (HO.tup [V.ty "list", V.ty "tuple"])) := same_upd nT
    have e1 : (upd H T (HO.tup [V.ty "list", V.ty "tuple"])) T = some (HO.tup [V.ty "list", V.ty "tuple"]) := upd_same
    generalize (upd H T (HO.tup [V.ty "list", V.ty "tuple"])) = H1 at s1 e1 ⊢
    cases hV with
    | @no y k h h1 h2 =>
      refine ⟨_, T, _, _, _, _, rfl, e1, .cons (.ty "list") (.cons (.ty "tuple") .nil), (h.same s1).ty, kit_seq k, _, rfl, ?_⟩
      rw [h1, h2]
      exact q _ s1
    | @bad a xs h hv =>
      obtain ⟨k, hk, hk2⟩ := (h.same s1).is
      refine ⟨_, T, _, _, _, _, rfl, e1, .cons (.ty "list") (.cons (.ty "tuple") .nil), hk.ty, kit_seq k, _, rfl, ?_⟩
      rw [hk2]
      show if (!true) = true then _ else _
      rw [if_neg (by decide)]
      refine ⟨_, rfl, _, rfl, Bk, bs, rfl, hB.same s1, a, bs.length, xs, false, rfl, h.same s1, hv.same s1, fun H2 s2 => ⟨_, rfl, ?_⟩⟩
      exact q _ (s1.trans s2)
    | @good a xs ls r h hv hl hk hb hr2 =>
      obtain ⟨k, hk1, hk2⟩ := (h.same s1).is
      refine ⟨_, T, _, _, _, _, rfl, e1, .cons (.ty "list") (.cons (.ty "tuple") .nil), hk1.ty, kit_seq k, _, rfl, ?_⟩
      rw [hk2]
      show if (!true) = true then _ else _
      rw [if_neg (by decide)]
      refine ⟨_, rfl, _, rfl, Bk, bs, rfl, hB.same s1, a, bs.length, xs, true, rfl, h.same s1, hv.same s1, fun H2 s2 => ⟨_, rfl, ?_⟩⟩
      show if (!true) = true then _ else _
      rw [if_neg (by decide)]
      have s12 := s1.trans s2
      refine ⟨_, rfl, Bk, bs, rfl, hB.same s12, _, rfl, bs.length, a, xs, ls, rfl, h.same s12, hl, fun i x p h1 h2 => (hk i x p h1 h2).kept fun a xs z => s12 _ _ z, hb, n1, n9, by have := hv.len; omega, fun R ps near H3 nR hR hrw hiff s3 => ?_⟩
      refine ⟨R, ps, rfl, .inl hR, rfl, ?_⟩
      have hd : decide (V.int (ps.length : Int) = V.int 1) = r := by
        have h1 := hr2 near hrw
        cases hrb : r with
        | true =>
          have : ps.length = 1 := hiff.mpr (h1.mp hrb)
          rw [this]
          rfl
        | false =>
          rw [decide_eq_false]
          intro z
          have z := V.int.inj z
          have : r = true := h1.mpr (hiff.mp (by omega))
          rw [hrb] at this
          cases this
      rw [hd]
      exact q _ (s12.trans s3)
end
end K1

set_option Elab.async false
set_option linter.all false
set_option maxRecDepth 100000
set_option maxHeartbeats 2000000
namespace K1
open PySem PySem.Spec PyProof.Rows L2
abbrev cPiece : Stmt := topS 32
abbrev sPInit : Stmt := inClass cPiece 0
abbrev sPLen : Stmt := inClass cPiece 1
abbrev sPEq : Stmt := inClass cPiece 2
theorem scPInit : FnScope ["self", "blocks", "links"] ["self", "blocks", "links"] (defScope sPInit) := ⟨rfl, rfl, rfl, by decide +kernel, rfl, by decide +kernel, by decide +kernel⟩
theorem scPLen : FnScope ["self"] ["self"] (defScope sPLen) := ⟨rfl, rfl, rfl, by decide +kernel, rfl, by decide +kernel, by decide +kernel⟩
theorem scPEq : FnScope ["self", "other"] ["self", "other"] (defScope sPEq) := ⟨rfl, rfl, rfl, by decide +kernel, rfl, by decide +kernel, by decide +kernel⟩
theorem nbl : ¬ (("blocks" : Str) = "links") := by decide +kernel
def pfl (bt lt : Addr) : List (Str × V) := putF "links" (.ref lt) (putF "blocks" (.ref bt) [])
theorem pfl_b (bt lt : Addr) : (pfl bt lt).lookup ("blocks" : Str) = some (.ref bt) := by
  unfold pfl
  rw [lookup_putF, if_neg nbl, lookup_putF, if_pos rfl]
theorem pfl_l (bt lt : Addr) : (pfl bt lt).lookup ("links" : Str) = some (.ref lt) := by
  unfold pfl
  rw [lookup_putF, if_pos rfl]
theorem pfl_no (bt lt : Addr) {m : Str} (h1 : ¬ m = "blocks") (h2 : ¬ m = "links") : (pfl bt lt).lookup m = none := by
  unfold pfl
  rw [lookup_putF, if_neg h2, lookup_putF, if_neg h1]
  rfl
/-- a piece at p -/
structure PieceAt (C : Addr) (H : Hp) (p bt lt : Addr) (bs xs : List V) : Prop where
  ob : ∃ dx, H p = some (.ins C dx (pfl bt lt))
  b : H bt = some (.tup bs)
  l : H lt = some (.tup xs)
theorem PieceAt.same {C : Addr} {H H' : Hp} {p bt lt : Addr} {bs xs : List V} (h : PieceAt C H p bt lt bs xs) (e : Same H H') : PieceAt C H' p bt lt bs xs := by
  obtain ⟨⟨dx, h1⟩, h2, h3⟩ := h
  exact ⟨⟨dx, e _ _ h1⟩, e _ _ h2, e _ _ h3⟩
/-- the class of the pieces -/
structure ClsP (K : PySem.W.Frag) (mg : Str → Option Value) (C : Addr) : Prop where
  cl : Cls K C
  nB : NoAttr K C "blocks"
  nL : NoAttr K C "links"
  g : mg "Piece" = some (.ref C)
theorem call_tuple2 {X : Cx} : CallR X (.type "tuple") (fun vs H Q => ∃ (p : Addr) (ys : List V), vs = [V.ref p] ∧ Sq2 H p ys ∧ ∀ (t : Addr) (H' : Hp), H' t = some (.tup ys) → Same H H' → Q (.ref t) H') := by
  intro pins s σ H xs us Q I r h
  obtain ⟨p, ys, e, hq, q⟩ := h
  refine call_tuple_of pins s σ H xs us Q I r ⟨p, ys, e, ?_⟩
  exact hq.elim (fun z => .inl ⟨SqL.of z, fun l nl => q l _ upd_same (same_upd nl)⟩) fun z => .inr ⟨SqT.of z, q p _ z (Same.refl _)⟩
theorem CpV.same {H H' : Hp} {x : V} {r : Bool} (h : CpV H x r) (e : Same H H') : CpV H' x r := by
  cases h with
  | no h hk hl => exact .no (h.same e) hk hl
  | lst h hk => exact .lst (e _ _ h) ⟨hk.1, fun i x k h1 h2 => ⟨(hk.2 i x k h1 h2).1.same e, (hk.2 i x k h1 h2).2⟩⟩
  | tup h hk => exact .tup (e _ _ h) ⟨hk.1, fun i x k h1 h2 => ⟨(hk.2 i x k h1 h2).1.same e, (hk.2 i x k h1 h2).2⟩⟩
section
variable {P : Program} {w : World} {K : PySem.W.Frag} {mg : Str → Option Value} {base : Heap}
def spPInit (C CB : Addr) : Sp := fun vs H Q E => ∃ (p dx : Addr) (x y : V) (r1 : Bool), vs = [.ref p, x, y] ∧ H p = some (.ins C dx []) ∧ CpV H x r1 ∧
  ((r1 = false ∧ ∀ H', Same H H' → E (.ref CB) none H') ∨
   (r1 = true ∧ ∃ (Bk : Addr) (bs : List V) (r2 : Bool), x = .ref Bk ∧ Sq2 H Bk bs ∧ 1 ≤ bs.length ∧ bs.length ≤ 200 ∧ LnV H bs.length y r2 ∧
     ((r2 = false ∧ ∀ H', Same H H' → E (.ref CB) none H') ∨
      (r2 = true ∧ ∃ (Lk : Addr) (xs : List V), y = .ref Lk ∧ Sq2 H Lk xs ∧ ∀ (bt lt : Addr) (H' : Hp), PieceAt C H' p bt lt bs xs → (∀ c o, c ≠ p → H c = some o → H' c = some o) → Q .non H'))))
theorem ok_pinit {f C CB fC fL : Addr} {fd fdC fdL : FuncData} (F : Fun K "__init__" "Piece.__init__" sPInit f fd) (dC : D K mg "_are_copies" sCopies ["blocks"] fC fdC) (GC : FnOk P w K mg base CX0 3 fC fdC ["blocks"] spCopies)
    (dL : D K mg "_are_linked" sLinked ["blocks", "links"] fL fdL) (GL : FnOk P w K mg base CX0 5 fL fdL ["blocks", "links"] spLinked) (Bt : Bi mg) (S : ClsP K mg C) (X : ErrC K mg "BadPiece" CB) :
    FnOk P w K mg base (L2.CX P w) 6 f fd ["self", "blocks", "links"] (spPInit C CB) := by
  refine F.okX scPInit (fun vs H Q E h => ?_) (fun cdv A outer s H vs Q E hr h => ?_)
  · obtain ⟨p, dx, x, y, r1, rfl, _⟩ := h
    rfl
  · obtain ⟨p, dx, x, y, r1, rfl, hp, hC, h⟩ := h
    refine ⟨_, pss_cons (ps_if (pt_not (pt_val (pe_call GC (hr.mono (by decide)) (by rfl) dC.m dC.F.kp dC.b .nil pass0 (pa_cons (pv 1) pa_nil))))
        (pss_one (ps_raise rfl (takes_of rfl rfl rfl rfl) (pmk_own PySem.F.excBase_ValueError X.xc X.g X.k (raises_own X.b X.t) rfl))) pss_nil)
      (pss_cons (ps_if (pt_not (pt_val (pe_call GL hr (by rfl) dL.m dL.F.kp dL.b .nil pass0 (pa_cons (pv 1) (pa_cons (pv 2) pa_nil)))))
        (pss_one (ps_raise rfl (takes_of rfl rfl rfl rfl) (pmk_own PySem.F.excBase_ValueError X.xc X.g X.k (raises_own X.b X.t) rfl))) pss_nil)
      (pss_cons (ps_fld (pv 0) (pe_callTy call_tuple2 (by rfl) Bt.tuple boot_tuple (pa_cons (pv 1) pa_nil)) rfl)
      (pss_one (ps_fld (pv 0) (pe_callTy call_tuple2 (by rfl) Bt.tuple boot_tuple (pa_cons (pv 2) pa_nil)) rfl)))), ?_⟩
    refine ⟨_, rfl, x, r1, rfl, hC, fun H1 s1 => ⟨_, rfl, ?_⟩⟩
    rcases h with ⟨rfl, he⟩ | ⟨rfl, Bk, bs, r2, rfl, hB, n1, n2, hL, h⟩
    · show if (!false) = true then _ else _
      rw [if_pos (by decide)]
      exact he H1 s1
    show if (!true) = true then _ else _
    rw [if_neg (by decide)]
    refine ⟨_, rfl, _, rfl, Bk, bs, y, r2, rfl, hB.same s1, hL.same s1, n1, by omega, fun H2 s2 => ⟨_, rfl, ?_⟩⟩
    have s12 := s1.trans s2
    rcases h with ⟨rfl, he⟩ | ⟨rfl, Lk, xs, rfl, hLk, q⟩
    · show if (!false) = true then _ else _
      rw [if_pos (by decide)]
      exact he H2 s12
    show if (!true) = true then _ else _
    rw [if_neg (by decide)]
    have hp2 := s12 _ _ hp
    refine ⟨_, rfl, Bk, bs, rfl, hB.same s12, fun bt H3 hbt s3 => ?_⟩
    refine ⟨_, rfl, p, C, dx, [], rfl, s3 _ _ hp2, S.cl, S.nB, (by show 0 < 1000; decide), ?_⟩
    have hp3 := s3 _ _ hp2
    have pbt : bt ≠ p := ne_of hbt hp3 (by intro z; cases z)
    have k3 : ∀ c o, c ≠ p → H c = some o → (upd H3 p (.ins C dx (putF "blocks" (.ref bt) []))) c = some o := fun c o n e => by rw [upd_ne n]; exact s3 _ _ (s12 _ _ e)
    have hb4 : (upd H3 p (.ins C dx (putF "blocks" (.ref bt) []))) bt = some (.tup bs) := by rw [upd_ne pbt]; exact hbt
    have hp4 : (upd H3 p (.ins C dx (putF "blocks" (.ref bt) []))) p = some (.ins C dx (putF "blocks" (.ref bt) [])) := upd_same
    dsimp only
    generalize (upd H3 p (.ins C dx (putF "blocks" (.ref bt) []))) = H4 at k3 hb4 hp4
    have pLk : Lk ≠ p := hLk.elim (fun z => ne_of z hp (by intro z; cases z)) fun z => ne_of z hp (by intro z; cases z)
    refine ⟨_, rfl, Lk, xs, rfl, hLk.kept fun o z => k3 _ _ pLk z, fun lt H5 hlt s5 => ?_⟩
    have hp5 := s5 _ _ hp4
    have plt : lt ≠ p := ne_of hlt hp5 (by intro z; cases z)
    refine ⟨_, rfl, p, C, dx, _, rfl, hp5, S.cl, S.nL, (by show 1 < 1000; decide), ?_⟩
    exact q bt lt _ ⟨⟨dx, upd_same⟩, by rw [upd_ne pbt]; exact s5 _ _ hb4, by rw [upd_ne plt]; exact hlt⟩ fun c o n e => by rw [upd_ne n]; exact s5 _ _ (k3 c o n e)
def spPLen (C : Addr) : Sp := fun vs H Q _ => ∃ (p bt lt : Addr) (bs xs : List V), vs = [.ref p] ∧ PieceAt C H p bt lt bs xs ∧ Q (.int bs.length) H
theorem ok_plen {f C : Addr} {fd : FuncData} (F : Fun K "__len__" "Piece.__len__" sPLen f fd) (Bt : Bi mg) (S : ClsP K mg C) : FnOk P w K mg base CX0 1 f fd ["self"] (spPLen C) := by
  refine F.ok scPLen (fun vs H Q E h => ?_) (fun cdv A outer s H vs Q E hr h => ?_)
  · obtain ⟨p, bt, lt, bs, xs, rfl, _⟩ := h
    rfl
  · obtain ⟨p, bt, lt, bs, xs, rfl, ⟨⟨dx, h1⟩, h2, h3⟩, q⟩ := h
    refine ⟨_, pss_one (ps_ret (pe_callB call_len_seq (by rfl) Bt.len PySem.boot_len (pa_cons (pe_fld (pv 0) rfl) pa_nil))), ?_⟩
    exact ⟨_, rfl, p, C, dx, _, _, rfl, h1, S.cl, S.nB, pfl_b _ _, bt, _, rfl, .inr (SqT.of h2), q⟩
/-- two pieces, told as data -/
def spPEq (K : PySem.W.Frag) (C : Addr) : Sp := fun vs H Q _ => ∃ (p bt lt p' bt' lt' : Addr) (bs xs bs' xs' : List V) (d1 d2 e1 e2 : PyData), vs = [.ref p, .ref p'] ∧ PieceAt C H p bt lt bs xs ∧ PieceAt C H p' bt' lt' bs' xs' ∧
  Dp K H (.ref bt) d1 ∧ Dp K H (.ref lt) d2 ∧ Dp K H (.ref bt') e1 ∧ Dp K H (.ref lt') e2 ∧ SeqAt.shaped d1 = true ∧ SeqAt.shaped d2 = true ∧ SeqAt.shaped e1 = true ∧ SeqAt.shaped e2 = true ∧ Q (.bl (PyData.eqv d1 e1 && PyData.eqv d2 e2)) H
theorem ok_peq {f C : Addr} {fd : FuncData} (F : Fun K "__eq__" "Piece.__eq__" sPEq f fd) (Bt : Bi mg) (S : ClsP K mg C) (I : IsC K C) : FnOk P w K mg base CX0 1 f fd ["self", "other"] (spPEq K C) := by
  refine F.ok scPEq (fun vs H Q E h => ?_) (fun cdv A outer s H vs Q E hr h => ?_)
  · obtain ⟨p, bt, lt, p', bt', lt', bs, xs, bs', xs', d1, d2, e1, e2, rfl, _⟩ := h
    rfl
  · obtain ⟨p, bt, lt, p', bt', lt', bs, xs, bs', xs', d1, d2, e1, e2, rfl, ⟨⟨dx, h1⟩, h2, h3⟩, ⟨⟨dy, g1⟩, g2, g3⟩, r1, r2, r3, r4, t1, t2, t3, t4, q⟩ := h
    have hu : (A.deeper (envOfC "Piece.__eq__" (defScope sPEq) s.heap.objs.size f cdv)).units + 64 < cLine := h64_of hr
    refine ⟨_, pss_one (ps_ret (pe_and (pe_callB call_isi (by rfl) Bt.isi boot_isinstance (pa_cons (pv 1) (pa_cons (pe_glob rfl S.g (v := .ref C) rfl) pa_nil)))
      (pe_and (pe_cmpR (op_eqD hu) (pe_fld (pv 0) rfl) (pe_fld (pv 1) rfl) (nomark _)) (pe_one (pe_cmpR (op_eqD hu) (pe_fld (pv 0) rfl) (pe_fld (pv 1) rfl) (nomark _)))))), ?_⟩
    refine ⟨_, rfl, _, _, _, _, true, rfl, .own C, .base (.ins g1 S.cl I.ha I.hn I.ht I.hm), by unfold PySem.W.kitOne; rw [if_pos (by simp)], true, rfl, ?_⟩
    rw [if_pos rfl]
    refine ⟨_, rfl, p, C, dx, _, _, rfl, h1, S.cl, S.nB, pfl_b _ _, _, rfl, p', C, dy, _, _, rfl, g1, S.cl, S.nB, pfl_b _ _, d1, e1, r1, r3, t1, t3, _, rfl, ?_⟩
    cases he : PyData.eqv d1 e1 with
    | false =>
      rw [he] at q
      show if false = true then _ else _
      rw [if_neg Bool.false_ne_true]
      exact q
    | true =>
      rw [he, Bool.true_and] at q
      show if true = true then _ else _
      rw [if_pos rfl]
      exact ⟨_, rfl, p, C, dx, _, _, rfl, h1, S.cl, S.nL, pfl_l _ _, _, rfl, p', C, dy, _, _, rfl, g1, S.cl, S.nL, pfl_l _ _, d2, e2, r2, r4, t2, t4, q⟩
end
end K1

set_option Elab.async false
set_option linter.all false
set_option maxRecDepth 100000
set_option maxHeartbeats 2000000
namespace K1
open PySem PySem.Spec PyProof.Rows L2
abbrev sIsPc : Stmt := topS 33
abbrev sChkPc : Stmt := topS 34
abbrev sRings : Stmt := topS 36
theorem scIsPc : FnScope ["sheet", "piece", "name"] ["sheet", "piece"] (defScope sIsPc) := ⟨rfl, rfl, rfl, by decide +kernel, rfl, by decide +kernel, by decide +kernel⟩
theorem scChkPc : FnScope ["sheet", "piece"] ["sheet", "piece"] (defScope sChkPc) := ⟨rfl, rfl, rfl, by decide +kernel, rfl, by decide +kernel, by decide +kernel⟩
theorem scRings : FnScope ["sheet", "piece"] ["sheet", "piece"] (defScope sRings) := ⟨rfl, rfl, rfl, by decide +kernel, rfl, by decide +kernel, by decide +kernel⟩
/-- a piece as its class has made it -/
structure PcWf (C : Addr) (H : Hp) (p bt lt : Addr) (nms : List Str) (xs : List V) : Prop where
  at_ : PieceAt C H p bt lt (nms.map V.str) xs
  words : ∀ m ∈ nms, wordB m = true
  n1 : 1 ≤ nms.length
  n2 : nms.length ≤ 200
  ln : LnV H nms.length (.ref lt) true
theorem PcWf.same {C : Addr} {H H' : Hp} {p bt lt : Addr} {nms : List Str} {xs : List V} (h : PcWf C H p bt lt nms xs) (e : Same H H') : PcWf C H' p bt lt nms xs := ⟨h.at_.same e, h.words, h.n1, h.n2, h.ln.same e⟩
theorem wordB_len {m : Str} (h : wordB m = true) : m.length ≤ sizeLine := by
  unfold wordB at h
  have h1 : m.length ≤ 8 := by
    have := (Bool.and_eq_true_iff.mp (Bool.and_eq_true_iff.mp h).1).2
    exact of_decide_eq_true this
  exact Nat.le_of_lt (small1000 (by omega))
theorem kinds_strs {H : Hp} {nms : List Str} (h : ∀ m ∈ nms, wordB m = true) : Kinds H (nms.map V.str) (nms.map Kd.str) := by
  refine ⟨by rw [List.length_map, List.length_map], fun i x k h1 h2 => ?_⟩
  rw [List.getElem?_map] at h1 h2
  cases hm : nms[i]? with
  | none => rw [hm] at h1; cases h1
  | some m =>
    rw [hm] at h1 h2
    cases h1
    cases h2
    exact ⟨.str m, fun z e => by cases e; exact wordB_len (h m (List.mem_of_getElem? hm))⟩
theorem cpB_strs {nms : List Str} (h : ∀ m ∈ nms, wordB m = true) (n1 : 1 ≤ nms.length) (n2 : nms.length ≤ 200) : cpB (nms.map Kd.str) = true := by
  unfold cpB
  rw [List.length_map, decide_eq_true n1, decide_eq_true n2, Bool.true_and, Bool.true_and, List.all_map, List.all_eq_true]
  exact fun m hm => h m hm
theorem PcWf.cp {C : Addr} {H : Hp} {p bt lt : Addr} {nms : List Str} {xs : List V} (h : PcWf C H p bt lt nms xs) : CpV H (.ref bt) true := by
  rw [← cpB_strs h.words h.n1 h.n2]
  exact .tup h.at_.b (kinds_strs h.words)
/-- whether the links of a piece fit -/
def FitV (H : Hp) (ps : List (Str × Str)) (b : List (Str × V)) (nms : List Str) (xs : List V) (r : Bool) : Prop := ∃ (ls : List (Pl × Pl)) (fs : List Bool), xs.length = ls.length ∧ fs.length = ls.length ∧
  (∀ (i : Nat) x p r, xs[i]? = some x → ls[i]? = some p → fs[i]? = some r → ∃ o1 o2, LkF H x o1 o2 p ∧ ∃ i1 i2 j1 j2 m1 m2 a1 a2 e1 e2, Two H b nms p i1 i2 j1 j2 m1 m2 a1 a2 e1 e2 ∧ r = fitE ps e1 e2 j1 j2 ∧ (∀ x ∈ e1, ∃ y, K1.look ps x = some y)) ∧ r = fs.all id
theorem FitV.same {H H' : Hp} {ps : List (Str × Str)} {b : List (Str × V)} {nms : List Str} {xs : List V} {r : Bool} (h : FitV H ps b nms xs r) (e : Same H H') : FitV H' ps b nms xs r := by
  obtain ⟨ls, fs, h1, h2, h3, h4⟩ := h
  refine ⟨ls, fs, h1, h2, fun i x p r a1 a2 a3 => ?_, h4⟩
  obtain ⟨o1, o2, hk, i1, i2, j1, j2, m1, m2, b1, b2, e1, e2, T, er, hx⟩ := h3 i x p r a1 a2 a3
  exact ⟨o1, o2, hk.kept e, i1, i2, j1, j2, m1, m2, b1, b2, e1, e2, T.same e, er, hx⟩
/-- whether a value is a piece of a sheet -/
inductive PcV (C : Addr) (H : Hp) (ps : List (Str × Str)) (b : List (Str × V)) : V → Bool → Prop
  | no {y : V} {k : Kd} (h : Is H y k) : PcV C H ps b y false
  | out {p bt lt : Addr} {nms : List Str} {xs : List V} (h : PcWf C H p bt lt nms xs) (hn : nms.all (fun m => (K1.look b m).isSome) = false) : PcV C H ps b (.ref p) false
  | fit {p bt lt : Addr} {nms : List Str} {xs : List V} {r : Bool} (h : PcWf C H p bt lt nms xs) (hn : nms.all (fun m => (K1.look b m).isSome) = true) (hf : FitV H ps b nms xs r) : PcV C H ps b (.ref p) r
theorem PcV.same {C : Addr} {H H' : Hp} {ps : List (Str × Str)} {b : List (Str × V)} {y : V} {r : Bool} (h : PcV C H ps b y r) (e : Same H H') : PcV C H' ps b y r := by
  cases h with
  | no h => exact .no (h.same e)
  | out h hn => exact .out (h.same e) hn
  | fit h hn hf => exact .fit (h.same e) hn (hf.same e)
/-- a def with its promise -/
structure Df (P : Program) (w : World) (K : PySem.W.Frag) (mg : Str → Option Value) (base : Heap) (cx : CXT) (n : Nat) (x : Str) (st : Stmt) (ps : List Str) (sp : Sp) (f : Addr) (fd : FuncData) : Prop where
  d : D K mg x st ps f fd
  G : FnOk P w K mg base cx n f fd ps sp
/-- a method with its promise -/
structure Md (P : Program) (w : World) (K : PySem.W.Frag) (mg : Str → Option Value) (base : Heap) (cx : CXT) (n : Nat) (C : Addr) (x : Str) (ps : List Str) (sp : Sp) (f : Addr) (fd : FuncData) : Prop where
  m : Meth K C x f
  G : FnOk P w K mg base cx n f fd ps sp
  b : Binds K fd ps []
section
variable {P : Program} {w : World} {K : PySem.W.Frag} {mg : Str → Option Value} {base : Heap}
/-- the sheet is one, or not -/
def ShOr (C CB : Addr) (H : Hp) (x : V) (E : XK) (k : Addr → List (Str × Str) → List (Str × V) → Prop) : Prop := (∃ kd, Is H x kd ∧ E (.ref CB) none H) ∨ ∃ (SH pp bp np : Addr) (ps : List (Str × Str)) (b : List (Str × V)), x = .ref SH ∧ SheetAt C H SH pp bp np (pl ps) b ∧ (ps.map (·.1)).Nodup ∧ (b.map (·.1)).Nodup ∧ k SH ps b
def spIsPc (C CP CB : Addr) : Sp := fun vs H Q E => ∃ x y : V, vs = [x, y] ∧ ShOr C CB H x E fun _ ps b => ∃ r, PcV CP H ps b y r ∧ ∀ H', Same H H' → Q (.bl r) H'
theorem ok_isPc {f C CP CB fK fC fL fF fO : Addr} {fd dK dC dL dF dO : FuncData} (F : Fun K "is_piece_of" "is_piece_of" sIsPc f fd) (ck : Df P w K mg base (L2.CX P w) 1 "check_sheet" sCheck ["sheet"] (spCheck C CB) fK dK) (cc : Df P w K mg base CX0 3 "_are_copies" sCopies ["blocks"] spCopies fC dC)
    (cl : Df P w K mg base CX0 5 "_are_linked" sLinked ["blocks", "links"] spLinked fL dL) (cf : Df P w K mg base CX0 2 "do_fit" sFit ["sheet", "blocks", "links"] (spFit C) fF dF) (mo : Md P w K mg base CX0 1 C "__contains__" ["self", "name"] (spCont C) fO dO)
    (Bt : Bi mg) (S : ClsS K mg C) (SP : ClsP K mg CP) (IP : IsC K CP) (no : ∀ k, PySem.W.kitOne K (.type (tyK k)) (.ref CP) = some false) : FnOk P w K mg base (L2.CX P w) 6 f fd ["sheet", "piece"] (spIsPc C CP CB) := by
  refine F.okX scIsPc (fun vs H Q E h => ?_) (fun cdv A outer s H vs Q E hr h => ?_)
  · obtain ⟨x, y, rfl, _⟩ := h
    rfl
  · obtain ⟨x, y, rfl, h⟩ := h
    have r1 : Room 1 (A.deeper (envOfC "is_piece_of" (defScope sIsPc) s.heap.objs.size f cdv)) := hr.mono (by decide)
    refine ⟨_, pss_cons (ps_expr (pe_call ck.G r1 (by rfl) ck.d.m ck.d.F.kp ck.d.b .nil (passes_call (takes_of rfl rfl rfl rfl) (fun _ _ _ _ h => h)) (pa_cons (pv 0) pa_nil)))
      (pss_cons (ps_if (pt_not (pt_val (pe_callB call_isi (by rfl) Bt.isi boot_isinstance (pa_cons (pv 1) (pa_cons (pe_glob rfl SP.g (v := .ref CP) rfl) pa_nil))))) (pss_one (ps_ret pe_bl)) pss_nil)
      (pss_cons (ps_if (PW.pt (pw_or (pt_not (pt_val (pe_call cc.G (hr.mono (by decide)) (by rfl) cc.d.m cc.d.F.kp cc.d.b .nil pass0 (pa_cons (pe_fld (pv 1) rfl) pa_nil))))
          (pw_or1 (pt_not (pt_val (pe_call cl.G hr (by rfl) cl.d.m cl.d.F.kp cl.d.b .nil pass0 (pa_cons (pe_fld (pv 1) rfl) (pa_cons (pe_fld (pv 1) rfl) pa_nil)))))))) (pss_one (ps_ret pe_bl)) pss_nil)
      (pss_one (ps_ret (pe_and (pe_callB (cr_all rfl) (by rfl) Bt.all boot_all (pa_cons
          (pe_lc (own := [("name", 2)]) (g := gName 2) (tt := tYes) rfl scIsPc.nd (pi_tup (pe_fld (pv 1) rfl)) (blkOk_by (own := [("name", 2)]) (N := ["sheet", "piece", "name"]) (sc := defScope sIsPc) (by decide +kernel))
            (fun _ _ _ _ _ => pg_name (i := 2) scIsPc.nd rfl (Or.inl rfl)) (fun _ _ _ _ _ => pts_nil)
            (fun _ _ _ _ _ => pe_cmpR (op_inOwn mo.G mo.m.at_ mo.m.fn mo.b pass0 r1) (pv 2) (pv 0) (by rfl))) pa_nil))
        (pe_one (pe_call cf.G (hr.mono (by decide)) (by rfl) cf.d.m cf.d.F.kp cf.d.b .nil pass0 (pa_cons (pv 0) (pa_cons (pe_fld (pv 1) rfl) (pa_cons (pe_fld (pv 1) rfl) pa_nil)))))))))), ?_⟩
    rcases h with ⟨kd, hk, he⟩ | ⟨SH, pp, bp, np, ps, b, rfl, hS, pn, bn, r, hP, q⟩
    · exact ⟨_, rfl, x, rfl, .inr ⟨kd, hk, he⟩⟩
    obtain ⟨dx, ox⟩ := hS.ob
    refine ⟨_, rfl, _, rfl, .inl ⟨SH, dx, _, rfl, ox, ?_⟩⟩
    have two : (∃ k, Is H y k ∧ r = false) ∨ ∃ (p bt lt : Addr) (nms : List Str) (xs : List V), y = .ref p ∧ PcWf CP H p bt lt nms xs ∧ (∀ H', Same H H' → nms.all (fun m => (K1.look b m).isSome) = false → Q (.bl false) H') ∧
        (∀ H', Same H H' → nms.all (fun m => (K1.look b m).isSome) = true → ∃ r, FitV H' ps b nms xs r ∧ ∀ H'', Same H' H'' → Q (.bl r) H'') := by
      cases hP with
      | @no y k h => exact .inl ⟨k, h, rfl⟩
      | @out p bt lt nms xs h hn => exact .inr ⟨p, bt, lt, nms, xs, rfl, h, fun H' s _ => q _ s, fun H' s e => by rw [hn] at e; cases e⟩
      | @fit p bt lt nms xs r h hn hf => exact .inr ⟨p, bt, lt, nms, xs, rfl, h, fun H' s e => (by rw [hn] at e; cases e), fun H' s _ => ⟨r, hf.same s, fun H'' s' => q _ (s.trans s')⟩⟩
    rcases two with ⟨k, h, rfl⟩ | ⟨p, bt, lt, nms, xs, rfl, h, k1, k2⟩
    · refine ⟨_, rfl, _, _, _, _, false, rfl, .own CP, h.ty, no k, false, rfl, ?_⟩
      show if (!false) = true then _ else _
      rw [if_pos (by decide)]
      exact q _ (Same.refl _)
    obtain ⟨⟨dy, oy⟩, hb, hl⟩ := h.at_
    refine ⟨_, rfl, _, _, _, _, true, rfl, .own CP, .base (.ins oy SP.cl IP.ha IP.hn IP.ht IP.hm), by unfold PySem.W.kitOne; rw [if_pos (by simp)], true, rfl, ?_⟩
    show if (!true) = true then _ else _
    rw [if_neg (by decide)]
    refine ⟨_, rfl, p, CP, dy, _, _, rfl, oy, SP.cl, SP.nB, pfl_b _ _, .ref bt, true, rfl, h.cp, fun H1 s1 => ⟨_, rfl, ?_⟩⟩
    show if (!true) = true then _ else _
    rw [if_neg (by decide)]
    refine ⟨_, rfl, p, CP, dy, _, _, rfl, s1 _ _ oy, SP.cl, SP.nB, pfl_b _ _, _, rfl, p, CP, dy, _, _, rfl, s1 _ _ oy, SP.cl, SP.nL, pfl_l _ _, bt, nms.map V.str, .ref lt, true, rfl, .inr (s1 _ _ hb), ?_, ?_, ?_, fun H2 s2 => ⟨_, rfl, ?_⟩⟩
    · rw [List.length_map]; exact h.ln.same s1
    · rw [List.length_map]; exact h.n1
    · rw [List.length_map]; have := h.n2; omega
    show if (!true) = true then _ else _
    rw [if_neg (by decide)]
    have s12 := s1.trans s2
    refine ⟨_, rfl, p, CP, dy, _, _, rfl, s12 _ _ oy, SP.cl, SP.nB, pfl_b _ _, bt, rfl, ⟨_, SqT.of (s12 _ _ hb)⟩, fun L nL => ?_⟩
    refine lc_tup (K := K) (a := bt) (xs := nms.map V.str) (fun i H3 => H3 L = some (.lst (((nms.take i).map fun m => (K1.look b m).isSome).map V.bl)) ∧ ∀ c o, c ≠ L → H2 c = some o → H3 c = some o) ⟨upd_same, fun c o n e => by rw [upd_ne n]; exact e⟩
      (fun i H3 _ e => SqT.of (e.2 _ _ (ne_of_none (s12 _ _ hb) nL) (s12 _ _ hb))) ?_ ?_
    · rintro i z H3 hz ⟨g1, g2⟩
      rw [List.getElem?_map] at hz
      cases hm : nms[i]? with
      | none => rw [hm] at hz; cases hz
      | some m =>
      rw [hm] at hz
      cases hz
      have hi : i < nms.length := (List.getElem?_eq_some_iff.mp hm).1
      have s3 : Same H2 H3 := fun c o e => g2 c o (ne_of_none e nL) e
      have hS3 := (hS.same s12).same s3
      refine ⟨rfl, _, rfl, _, rfl, SH, dx, _, rfl, s3 _ _ (s12 _ _ ox), SH, pp, bp, np, pl ps, b, m, rfl, hS3, bn, _, rfl, _, g1, ?_, ?_, fun c o n e => by rw [upd_ne n]; exact g2 c o n e⟩
      · rw [List.length_map, List.length_map, List.length_take]
        have := h.n2
        exact small1000 (by omega)
      · rw [upd_same, List.take_add_one, hm, List.map_append, List.map_append]
        rfl
    rintro H3 ⟨g1, g2⟩
    rw [List.length_map, List.take_length] at g1
    have s3 : Same H2 H3 := fun c o e => g2 c o (ne_of_none e nL) e
    have s13 := s12.trans s3
    refine ⟨L, _, rfl, SqL.of g1, _, rfl, ?_⟩
    have ea : ((nms.map fun m => (K1.look b m).isSome).all id) = nms.all (fun m => (K1.look b m).isSome) := by rw [List.all_map]; rfl
    rw [ea]
    cases hall : nms.all (fun m => (K1.look b m).isSome) with
    | false =>
      show if false = true then _ else _
      rw [if_neg Bool.false_ne_true]
      exact k1 H3 s13 hall
    | true =>
      show if true = true then _ else _
      rw [if_pos rfl]
      obtain ⟨r, ⟨ls, fs, f1, f2, f3, f4⟩, q2⟩ := k2 H3 s13 hall
      refine ⟨_, rfl, _, rfl, p, CP, dy, _, _, rfl, s13 _ _ oy, SP.cl, SP.nB, pfl_b _ _, _, rfl, p, CP, dy, _, _, rfl, s13 _ _ oy, SP.cl, SP.nL, pfl_l _ _, SH, pp, bp, np, bt, lt, ps, b, nms, xs, ls, fs, rfl, hS.same s13, pn, bn, s13 _ _ hb, s13 _ _ hl, f1, f2, f3, ?_⟩
      rw [← f4]
      exact q2
end
end K1

set_option Elab.async false
set_option linter.all false
set_option maxRecDepth 100000
set_option maxHeartbeats 2000000
namespace K1
open PySem PySem.Spec PyProof.Rows L2
open PySem.W (EachIs AllAlike Sortable dataLe dataLt SortsAt)
section
variable {prog : Program} {w : World} {A : Around} {E : Value → Shared → Prop} {s : Shared} {β : Type} {vs : List Value} {bs : List β} {enc : β → PyData} {R : Value → β → Prop}
/-- sorted of a list or a tuple that reads as data -/
theorem sorted_seq {a : Addr} {T : String} {o : Obj} {n : Nat} {Q : Value → Shared → Prop} (hT : T = "list" ∨ T = "tuple") (ho : s.heap.get? a = some o) (hc : o.cls = .type T) (hd : o.data = .seq vs.toArray n) (e : EachIs R vs bs)
    (er : EachIs (fun v b => ∃ as, Reads s.heap v (enc b) as) vs bs) (hal : AllAlike (bs.map enc)) (hk : Sortable (bs.map enc)) (hL : bs.length ≤ sizeLine) (hu : ∀ b, b ∈ bs → A.units + 2 + (enc b).depth < cLine)
    (h : ∀ (h1 h' : Heap) (p : Addr) (out : List Value), (∀ b o, s.heap.get? b = some o → h1.get? b = some o) → (∀ b o, h1.get? b = some o → h'.get? b = some o) → h1.objs.size ≤ p → (∃ c, h'.get? p = some (seqObj "list" out.toArray c)) → EachIs R out (bs.mergeSort (dataLe false enc)) → Q (.ref p) { s with heap := h' }) :
    wpAny (model prog w) A (call (.builtin "sorted") [.ref a]) Q E s := by
  have hvl : vs.length = bs.length := e.length.symm ▸ rfl
  refine Calls.call_function_entry kind_sorted plain_sorted entry_sorted (args_sorted1 _) ?_
  unfold Builtin.«sorted»
  refine wpAny_bind (m := checkCount "sorted" 1 1 _) (wpAny_pure ?_)
  refine wpAny_bind (wpAny_collect_seq a hT ho hc hd (fun h1 k1 => ?_) (by rw [List.size_toArray]; omega))
  rw [List.toList_toArray]
  refine wpAny_bind (wpAny_newList ?_ (by omega))
  have at1 : (h1.push (seqObj "list" vs.toArray 0)).get? h1.objs.size = some (seqObj "list" vs.toArray 0) := Heap.get?_push_size _ rfl
  have old1 : ∀ b u, s.heap.get? b = some u → b ≠ h1.objs.size ∧ b < h1.objs.size := fun b u q => ⟨Nat.ne_of_lt (Heap.lt_size (k1 b u q)), Heap.lt_size (k1 b u q)⟩
  have er' : EachIs (fun v b => ∃ as, Reads (PySem.W.sortingHeap (h1.push (seqObj "list" vs.toArray 0)) h1.objs.size vs) v (enc b) as) vs bs := er.mono fun _ _ ⟨as, r⟩ =>
    ⟨as, PyProof.Rows.Reads.keeps (fun b u q => PySem.W.sortingHeap_old (old1 b u q).1 (Heap.get?_push_of_some _ (k1 b u q))) r⟩
  refine wpAny_bind (wpAny_holding (wpAny_call_entry slot_list_sort ⟨_, at1, rfl⟩ entry_list_sort (PySem.W.list_sort_vals (κ := PySem.W.dataKind (PySem.W.sortingHeap (h1.push (seqObj "list" vs.toArray 0)) h1.objs.size vs) (bs.map enc)) (s := { s with heap := h1.push (seqObj "list" vs.toArray 0) }) at1
    (SortsAt.data (s := { s with heap := PySem.W.sortingHeap (h1.push (seqObj "list" vs.toArray 0)) h1.objs.size vs }) (PySem.W.each_map (R := fun v d => ∃ as, Reads (PySem.W.sortingHeap (h1.push (seqObj "list" vs.toArray 0)) h1.objs.size vs) v d as) enc er') hal hk (PySem.W.bound_map hu)) (by omega) ⟨.none, rfl, ?_⟩) (args_list_sort _)))
  obtain ⟨c, hc2⟩ := sortedHeap_at (vs := vs) (out := (PySem.W.sortVals (PySem.W.dataKind (PySem.W.sortingHeap (h1.push (seqObj "list" vs.toArray 0)) h1.objs.size vs) (bs.map enc)) false vs vs).toArray) at1
  refine wpAny_pure ⟨_, rfl, h h1 _ h1.objs.size _ k1 (fun b u q => ?_) (Nat.le_refl _) ⟨c, hc2⟩ (PySem.W.sortVals_data false e er' hal)⟩
  show (sortedHeap _ _ _ _).get? b = some u
  have hb := Heap.lt_size q
  rw [sortedHeap_old (Nat.ne_of_lt hb) (by rw [size_push']; exact Nat.lt_succ_of_lt hb)]
  exact Heap.get?_push_of_some _ q
end
theorem each_rel {α : Type} {R : Value → α → Prop} (f : α → V) : ∀ {ys : List α} {us : List Value}, Vals (ys.map f) us → (∀ y ∈ ys, ∀ u, RelV (f y) u → R u y) → EachIs R us ys
  | [], _, r, _ => by cases r; exact .nil
  | y :: ys, _, r, h => by
    cases r with
    | cons r1 r2 => exact .cons (h y (List.mem_cons_self ..) _ r1) (each_rel f r2 fun z hz => h z (List.mem_cons_of_mem _ hz))
theorem rel_each {α : Type} {R : Value → α → Prop} (f : α → V) : ∀ {ys : List α} {us : List Value}, EachIs R us ys → (∀ u y, R u y → RelV (f y) u) → Vals (ys.map f) us
  | [], _, .nil, _ => .nil
  | y :: ys, _, .cons r1 r2, h => .cons (h _ _ r1) (rel_each f r2 h)
section
variable {X : Cx}
/-- sorted of a list or a tuple whose items f tells, with their data -/
theorem call_sorted2 {α : Type} (f : α → V) (enc : α → PyData) (hu : X.A.units + 64 < cLine) : CallR X (.builtin "sorted") (fun vs H Q => ∃ (a : Addr) (ys : List α), vs = [V.ref a] ∧ Sq2 H a (ys.map f) ∧ (∀ y ∈ ys, Dp X.K H (f y) (enc y)) ∧ AllAlike (ys.map enc) ∧ Sortable (ys.map enc) ∧
    (∀ y ∈ ys, (enc y).depth ≤ 60) ∧ ∀ p, H p = none → Q (.ref p) (upd H p (.lst ((ys.mergeSort (dataLe false enc)).map f)))) := by
  intro pins s σ H vs us Q I r h
  obtain ⟨a, ys, rfl, ha, hdp, hal, hk, hdep, q⟩ := h
  obtain ⟨u, rfl, ru⟩ := vals1 r
  cases ru
  have go : ∀ (T : String) (o : Obj) (its : List Value) (n : Nat), (T = "list" ∨ T = "tuple") → s.heap.get? a = some o → o.cls = .type T → o.data = .seq its.toArray n → Vals (ys.map f) its → (ys.map f).length ≤ sizeLine →
      wpAny (model X.prog X.w) X.A (call (.builtin "sorted") [.ref a]) (EP X pins σ Q) X.xe s := fun T o its n hT ho hc hd rv hz => by
    rw [List.length_map] at hz
    refine sorted_seq (R := fun u y => RelV (f y) u) hT ho hc hd (each_rel f rv fun y _ u r => r) (each_rel f rv fun y hy u r => Dp.reads I _ _ u (hdp y hy) r) hal hk hz (fun b hb => by have := hdep b hb; omega) fun h1 h' p out k1 k2 hp hpc eo => ?_
    obtain ⟨c, hc2⟩ := hpc
    have I1 : Inv X pins σ H { s with heap := h1 } := I.kept (t' := s.toks) k1
    refine ⟨.ref p, upd H p (.lst ((ys.mergeSort (dataLe false enc)).map f)), I1.laid (t' := s.toks) k2 hp ⟨?_, out, c, rel_each f eo fun u y r => r, hc2⟩, rfl, q p (I1.hok.fresh hp)⟩
    rw [List.length_map, List.length_mergeSort]
    exact hz
  rcases ha with ha | ha
  · obtain ⟨hz, its, n, rv, ho⟩ := I.hok a _ ha
    exact go "list" _ its n (.inl rfl) ho rfl rfl rv hz
  · obtain ⟨hz, its, rv, o, ho, hc, n, hd⟩ := I.hok a _ ha
    exact go "tuple" o its n (.inr rfl) ho hc hd rv hz
end
theorem data_total {α : Type} (enc : α → PyData) : PySem.W.TotalLe (dataLe false enc) := PySem.W.sortLe_total _ _ _
theorem data_sorted {α : Type} (enc : α → PyData) (l : List α) : (l.mergeSort (dataLe false enc)).Pairwise (fun a b => dataLe false enc a b = true) := PySem.W.sort_pairwise (data_total enc) l
/-- sorted of texts -/
theorem call_sortedT {X : Cx} (hu : X.A.units + 64 < cLine) : CallR X (.builtin "sorted") (fun vs H Q => ∃ (a : Addr) (zs : List Str), vs = [V.ref a] ∧ Sq2 H a (zs.map V.str) ∧ ∀ ys p, ys.Perm zs → sortedS ys = true → H p = none → Q (.ref p) (upd H p (.lst (ys.map V.str)))) := by
  intro pins s σ H vs us Q I r h
  obtain ⟨a, zs, rfl, ha, q⟩ := h
  refine call_sorted2 V.str PyData.str hu pins s σ H _ us Q I r ⟨a, zs, rfl, ha, fun y _ => .str y, PySem.W.AllAlike.of fun b b' => by simp [PySem.W.alike], PySem.W.Sortable.others fun b => ⟨by simp, by simp⟩, fun y _ => by simp [PyData.depth], fun p hp => ?_⟩
  refine q _ p (List.mergeSort_perm _ _) ?_ hp
  refine sortedS_of_pairwise _ ?_
  have hp := data_sorted PyData.str zs
  rw [PySem.W.dataLe_str (fun b : Str => b)] at hp ⊢
  refine hp.imp fun {a b} z => ?_
  have z : a.cps.toList ≤ b.cps.toList := of_decide_eq_true z
  rw [← lt_iff]
  exact decide_eq_false (List.not_lt.mpr z)
end K1

set_option Elab.async false
set_option linter.all false
set_option maxRecDepth 100000
set_option maxHeartbeats 2000000
namespace K1
open PySem PySem.Spec PyProof.Rows L2
/-- enumerate of one argument, whose iterator is o -/
theorem meets_enum1 {v : Value} {o : Obj} {G : Heap → Prop} (B : Begins v o G) :
    Meets (Builtin.«enumerate.__new__» ⟨[.type "enumerate", v], []⟩) (fun _ R s => G s.heap ∧ R (.ok (.ret (.ref (s.heap.push o).objs.size)))
      { s with heap := (s.heap.push o).push { cls := .type "enumerate", data := .fields #[.none, .bool false, .ref s.heap.objs.size, rawInt 0, .none, .none] } }) :=
  .of_wp fun pr wo A R s h => by
    obtain ⟨hp, gs, dr, tk, os⟩ := s
    obtain ⟨g, h⟩ := h
    have sub := sub_enumerate
    have step : ∀ {A' : Around} {E Q : Value → Shared → Prop}, Q (.ref hp.objs.size) ⟨hp.push o, gs, dr, tk, os⟩ → wpAny (model pr wo) A' (pyIter v) Q E ⟨hp, gs, dr, tk, os⟩ := fun q => B.iter pr wo _ _ ⟨hp, gs, dr, tk, os⟩ _ g q
    wp_walk using step
    refine wpAny_stack_any fun st => wpAny_pure ?_
    split
    · rename_i c _ _ _ _ _
      cases (c == Value.type "enumerate")
      · wp_walk using step
        exact ⟨_, rfl, h⟩
      · wp_walk using step
        exact ⟨_, rfl, h⟩
    · wp_walk using step
      exact ⟨_, rfl, h⟩
section
variable {pr : Program} {wo : World} {A : Around} {E : Value → Shared → Prop} {s : Shared}
theorem call_enumT {t : Addr} {items : Array Value} {Q : Value → Shared → Prop} (ht : s.heap.IsTuple t items)
    (h : ∀ h', IsEnum h' (s.heap.objs.size + 1) s.heap.objs.size 0 .none → h'.IsTupleIter s.heap.objs.size t 0 → (∀ b o, s.heap.get? b = some o → h'.get? b = some o) → Q (.ref (s.heap.objs.size + 1)) { s with heap := h' }) :
    wpAny (model pr wo) A (call (.type "enumerate") [.ref t]) Q E s := by
  have B := begins_tuple t items
  refine callType_new F.called_enumerate (by decide) (F.typeCall_enumerate_1 _) (F.newCall_enumerate_1 _) (fun obj => F.args_object_init_2 obj _) F.entry_enumerate_new (meets_enum1 B) ⟨ht, ?_⟩
  generalize ho : ({ cls := .type "tuple_iterator", data := .fields #[.ref t, .int 0 0] } : Obj) = o at B
  have hz : (s.heap.push o).objs.size = s.heap.objs.size + 1 := Heap.size_push ..
  show _ ∧ _
  rw [hz]
  have he : IsEnum ((s.heap.push o).push { cls := .type "enumerate", data := .fields #[.none, .bool false, .ref s.heap.objs.size, rawInt 0, .none, .none] }) (s.heap.objs.size + 1) s.heap.objs.size 0 .none := by
    have q := Heap.get?_push_size (s.heap.push o) (o := { cls := .type "enumerate", data := .fields #[.none, .bool false, .ref s.heap.objs.size, rawInt 0, .none, .none] }) rfl
    rw [hz] at q
    exact q
  exact ⟨⟨_, he, rfl⟩, h _ he ⟨o, Heap.get?_push_of_some _ (Heap.get?_push_size _ B.free), by rw [← ho], by rw [← ho]; rfl⟩ fun b u x => Heap.get?_push_of_some _ (Heap.get?_push_of_some _ x)⟩
end
theorem tup_not_iter {h : Heap} {a it : Addr} {items : Array Value} {i : Nat} (p : IsTup h a items) (hit : h.IsTupleIter it a i) : a ≠ it := by
  rintro rfl
  obtain ⟨o1, q1, c1, _⟩ := hit
  obtain ⟨o2, q2, c2, _⟩ := p
  rw [q1] at q2
  cases q2
  rw [c1] at c2
  exact absurd (Value.type.inj c2) (by decide)
/-- the tuple at a, each item in a new pair -/
def IeT (K : PySem.W.Frag) (a : Addr) (n : Nat) : It where
  go := fun i H => i < n ∧ ∃ (xs : List V) (x : V), SqT K H a xs ∧ xs[i]? = some x
  yld := fun i H v H' => ∃ T x, v = .ref T ∧ H T = none ∧ H' = upd H T (.tup [.int (i : Nat), x]) ∧ ∀ xs, SqT K H a xs → xs[i]? = some x
  stop := fun i H => n ≤ i ∧ ∃ xs : List V, SqT K H a xs ∧ xs.length = n
theorem turn_enumT {pr : Program} {wo : World} {K : PySem.W.Frag} {elts : List Expr} {kk : Nat} {tpos : Pos} (a e it : Addr) (n : Nat) : Turn pr wo K (.Tuple elts kk tpos) (IeT K a n) [e, it] e (fun i h => (∃ old, IsEnum h e it ((i : Nat) : Int) old) ∧ h.IsTupleIter it a i ∧ e ≠ it ∧ i ≤ n) where
  mem := by simp
  obj := fun i h st b hb => by
    obtain ⟨⟨old, he⟩, ⟨o, ho, hc, hd⟩, _⟩ := st
    rcases (show b = e ∨ b = it by simpa using hb) with z | z
    · rw [z]; exact ⟨_, he, fun v q => nomatch q⟩
    · rw [z]; exact ⟨o, ho, fun v q => by rw [hd] at q; cases q⟩
  keep := fun i h h' st k => by
    obtain ⟨⟨old, he⟩, hi, hne, hn⟩ := st
    exact ⟨⟨old, k e (by simp) _ he⟩, hi.at fun o q => k it (by simp) o q, hne, hn⟩
  item := by
    intro X e1 e2 e3 calm i pins s σ H E I hf st hg
    subst e1 e2 e3
    obtain ⟨⟨old, he⟩, hit, hne, _⟩ := st
    obtain ⟨hin, xs, x, hq, hx⟩ := hg
    obtain ⟨its, rv, p, hz⟩ := I.tuple hq
    obtain ⟨u, hu, ru⟩ := rv.get hx
    have le : e < s.heap.objs.size := Heap.lt_size he
    have li : it < s.heap.objs.size := by obtain ⟨_, q, _⟩ := hit; exact Heap.lt_size q
    have na := tup_not_iter p hit
    have ea : e ≠ a := by
      rintro rfl
      obtain ⟨o2, q2, c2, _⟩ := p
      rw [show s.heap.get? e = some _ from he] at q2
      cases q2
      exact absurd (Value.type.inj c2) (by decide)
    have hlt : i < its.toArray.size := by rw [List.size_toArray]; exact (List.getElem?_eq_some_iff.mp hu).1
    refine wpAny_pyNext_enum_itemD (Draws.tuple (prog := X.prog) (w := X.w) (A := X.A.in1) (I.ok.hd calm) it a na its.toArray) he ⟨hit, p⟩ hlt hne (by simp [hne, ea]) fun y h' tk hy ho st' hT hsz hk => ?_
    obtain ⟨hit', p'⟩ := st'
    have ey : y = u := by
      have : its[i]? = some y := by simpa using hy
      rw [hu] at this
      exact (Option.some.inj this).symm
    subst ey
    refine ⟨_, rfl, wpAny_letOwnedTupleGo_enum (s := { s with heap := h', toks := tk + 1 }) ho fun h'' he' sb => ?_⟩
    have hT2 : h''.get? s.heap.objs.size = some { cls := .type "tuple", data := .seq #[.int i tk, y] } := (sb.2 _ (Nat.ne_of_gt le)).trans hT
    have new : ObjOk X.prog X.w (upd H s.heap.objs.size (.tup [.int (i : Nat), x])) h'' s.heap.objs.size (.tup [.int (i : Nat), x]) := ⟨Nat.le_of_lt (small1000 (n := 2) (by decide)), [.int i tk, y], .cons ⟨_, rfl⟩ (.cons ru .nil), ⟨_, hT2, rfl, _, rfl⟩⟩
    have I1 : Inv X pins σ (upd H s.heap.objs.size (.tup [.int (i : Nat), x])) { s with heap := h'', toks := tk + 1 } :=
      I.turnedNew (ch := [e, it]) (fun b ob hb q => (sb.2 b (fun z => hb (by simp [z]))).trans (hk b ob (fun z => hb (by simp [z])) (fun z => hb (by simp [z])) q)) hf (Nat.le_refl _) new
    refine ⟨.ref s.heap.objs.size, _, I1, rfl, ⟨_, x, rfl, I.hok.fresh (Nat.le_refl _), rfl, fun ys hy => by rw [I.tuple_inj hy hq]; exact hx⟩, ⟨⟨y, ?_⟩, hit'.at fun o q => (sb.2 it (Ne.symm hne)).trans q, hne, hin⟩, fun b hb => ?_⟩
    · rw [show ((i + 1 : Nat) : Int) = (i : Int) + 1 by omega]
      exact he'
    · have hb' : b < s.heap.objs.size := by
        rcases (show b = e ∨ b = it by simpa using hb) with z | z
        · rw [z]; exact le
        · rw [z]; exact li
      rw [upd_ne (Nat.ne_of_lt hb')]
      exact (hf b hb).1
  done := by
    intro X e1 e2 e3 calm i pins s σ H E I hf st hg
    subst e1 e2 e3
    obtain ⟨⟨old, he⟩, hit, hne, hn⟩ := st
    obtain ⟨hge, xs, hq, hx⟩ := hg
    obtain ⟨its, rv, p, hz⟩ := I.tuple hq
    obtain ⟨f0, f1, f2, f3, f4, f5⟩ := hf it (by simp)
    have na := tup_not_iter p hit
    have hl := rv.length
    have ei : i = its.toArray.size := by rw [List.size_toArray]; omega
    rw [ei] at hit
    exact wpAny_pyNext_enum_endD (Draws.tuple (prog := X.prog) (w := X.w) (A := X.A.in1) (I.ok.hd calm) it a na its.toArray) he ⟨hit, p⟩ fun h' eb => ⟨rfl, I.turned (t' := s.toks) (fun b o hb q => eb b o hb q) f0 f1 f3 f4 f5⟩
  self := fun A i s Q E st h => let ⟨⟨_, he⟩, _⟩ := st; wpAny_pyIter_enum he h
def iEnumT (K : PySem.W.Frag) (te : TE) : TI := fun σ H R => te σ H fun x H1 => ∃ a xs, x = .ref a ∧ SqT K H1 a xs ∧ R (IeT K a xs.length) H1
theorem pi_enumT {X : Cx} {e : Expr} {te : TE} {p pos tpos : Pos} {elts : List Expr} {kk : Nat} (hg : Gl X "enumerate") (hm : X.mg "enumerate" = none) (he : PE X e te) (hs : starEach [e] X.env = (false, eval e X.env) :: starEach [] X.env := by rfl) :
    PI X (.Tuple elts kk tpos) (.Call (.Name "enumerate" p) [e] [] pos) (iEnumT X.K te) := by
  refine ⟨fun pins s σ H R I h => ?_⟩
  refine Call_ (ld_blt I hg hm boot_enumerate (PyProof.Rows.callWith_type1 (args_cons (thn (he.run pins s σ H _ I h) fun u s1 ⟨v, H1, I1, r1, q1⟩ => args_nil ?_) hs) hs rfl))
  obtain ⟨a, xs, ev, hq, q⟩ := q1
  subst ev
  cases (show u = Value.ref a from r1)
  obtain ⟨its, rv, pt, hz⟩ := I1.tuple hq
  refine call_enumT pt fun h' hen hit hk => wpAny_pyIter_enum hen ?_
  have I2 : Inv X pins σ H1 { s1 with heap := h' } := I1.kept (t' := s1.toks) hk
  refine ⟨s1.heap.objs.size + 1, [s1.heap.objs.size + 1, s1.heap.objs.size], _, _, H1, rfl, I2, turn_enumT a (s1.heap.objs.size + 1) s1.heap.objs.size xs.length, ⟨⟨.none, hen⟩, hit, Nat.succ_ne_self _, Nat.zero_le _⟩, fun b hb => ?_, q⟩
  have hle : s1.heap.objs.size ≤ b := by
    rcases (show b = s1.heap.objs.size + 1 ∨ b = s1.heap.objs.size by simpa using hb) with z | z
    · rw [z]; exact Nat.le_add_right _ _
    · rw [z]; exact Nat.le_refl _
  exact I1.fpOk hle (I1.hok.fresh hle)
end K1

set_option Elab.async false
set_option linter.all false
set_option maxRecDepth 100000
set_option maxHeartbeats 2000000
namespace K1
open PySem PySem.Spec PyProof.Rows L2
section
variable {X : Cx}
/-- name = {k: v for .. in ..} -/
theorem set_dict1 {kx vx t0 i0 : Expr} {sc : Scope} {ps : Pos} {i : Nat} {nm : Str} {py spos : Pos} {own : List (Str × Nat)} {wo : TI} {go : TG} {tk tv : TE} (hc : X.calm = true) (hN : X.N.Nodup) (hnm : X.N[i]? = some nm) (hloc : X.env.scope.names.lookup nm = some .local)
    (hsw : swapsWith (.DictComp kx vx [⟨t0, i0, [], 0⟩] sc ps) (some (.Name nm py)) spos.line X.env = pure true) (ho : PI X t0 i0 wo) (ok : L2.BlkOk X.N X.env.scope sc own)
    (g0 : ∀ (u : Shared) (G : Hp) (C : Addr) (cl : List (Str × Addr)) (fp : List Addr), PG (X.blk u G sc (compEnvC sc cl C X.env) fp) t0 go)
    (ek : ∀ (u : Shared) (G : Hp) (C : Addr) (cl : List (Str × Addr)) (fp : List Addr), PE (X.blk u G sc (compEnvC sc cl C X.env) fp) kx tk) (ev : ∀ (u : Shared) (G : Hp) (C : Addr) (cl : List (Str × Addr)) (fp : List Addr), PE (X.blk u G sc (compEnvC sc cl C X.env) fp) vx tv)
    (f0 : ∀ x, foldedSetIterable i0 X.env x = pure x := by intro _; rfl) :
    PS X (.Assign [.Name nm py] (.DictComp kx vx [⟨t0, i0, [], 0⟩] sc ps) spos) (tAsg (tDc wo go tYes tk tv (own.map (·.2))) (gName i)) := by
  refine ⟨fun pins s σ H E I h => ?_⟩
  rw [exec_Assign_Name_used _ _ _ _ hsw]
  refine wpAny_bind (wpAny_standAt (wpAny_bind ?_))
  show wpAny _ X.A (do let _ ← comprehension (.DictComp kx vx [⟨t0, i0, [], 0⟩] sc ps) sc X.env (firstIterPos [⟨t0, i0, [], 0⟩] ps) newDict false (eval i0 X.env) (some (assign (.Name nm py) X.env))) _ _ s
  have h : tDc wo go tYes tk tv (own.map (·.2)) σ H (fun x H1 => gName i x σ H1 E.nx) := h
  refine wpAny_bind (thn (dc_core (Qf := fun _ t => SP X pins E .next t) hc hN I ho ok g0 (fun _ _ _ _ _ => pts_nil) ek ev f0 h fun D C t m H' I' q hn fr => ?_) fun _ t hq => wpAny_pure (wpAny_pure hq))
  obtain ⟨b0, b1, b2, b3, b4, b5⟩ := fr
  show wpAny _ _ (assign (.Name nm py) X.env (.ref D)) _ _ _
  refine wpAny_assign_Name (store_ok2 (v := V.ref D) I' hN hnm (.inl hloc) rfl (fun s8 I8 ⟨a, sb, ha⟩ => ?_) (.inr hloc))
  have apart : C ≠ a := ha.elim (fun z => by rw [z]; exact b1) fun z e => b4 nm a z e.symm
  exact ⟨m, hn.sameBut sb apart, fun h9 sb9 => ⟨_, H', I8.turned (t' := s8.toks) (fun b o hb e => (sb9.2 b hb).trans e) b0 b1 b3 b4 b5, q⟩⟩
end
/-- numbers by names -/
def numK (ks : List Str) (g : Str → Int) : List (Key × V) := ks.map fun m => ((Sum.inr m : Key), V.int (g m))
theorem numK_none : ∀ {ks : List Str} {g : Str → Int} {y : Str}, y ∉ ks → valV (numK ks g) (Sum.inr y) = none
  | [], _, _, _ => rfl
  | k :: r, g, y, h => by
    have h1 : k ≠ y := fun e => h (e ▸ List.mem_cons_self ..)
    show valV ((Sum.inr k, V.int (g k)) :: numK r g) (Sum.inr y) = none
    rw [valV_neg (fun e => h1 (Sum.inr.inj e))]
    exact numK_none fun z => h (List.mem_cons_of_mem _ z)
theorem numK_some : ∀ {ks : List Str} {g : Str → Int} {y : Str}, y ∈ ks → valV (numK ks g) (Sum.inr y) = some (.int (g y))
  | k :: r, g, y, h => by
    show valV ((Sum.inr k, V.int (g k)) :: numK r g) (Sum.inr y) = _
    by_cases e : k = y
    · subst e
      rw [valV_pos rfl]
    · rw [valV_neg (fun z => e (Sum.inr.inj z))]
      rcases List.mem_cons.mp h with z | z
      · exact absurd z.symm e
      · exact numK_some z
theorem numK_put {ks : List Str} {g : Str → Int} {y : Str} (h : y ∈ ks) (v : Int) : putK (numK ks g) (Sum.inr y) (.int v) = numK ks fun m => if m = y then v else g m := by
  unfold putK
  rw [valV_any, numK_some h]
  show (if true = true then _ else _) = _
  rw [if_pos rfl]
  unfold numK
  rw [List.map_map]
  refine List.map_congr_left fun m _ => ?_
  show (if (Sum.inr m : Key) = Sum.inr y then ((Sum.inr m : Key), V.int v) else (Sum.inr m, V.int (g m))) = (Sum.inr m, V.int (if m = y then v else g m))
  by_cases e : m = y
  · rw [if_pos (by rw [e]), if_pos e]
  · rw [if_neg (fun z => e (Sum.inr.inj z)), if_neg e]
theorem numK_new {ks : List Str} {g : Str → Int} {y : Str} (h : y ∉ ks) (v : Int) (hv : g y = v) : putK (numK ks g) (Sum.inr y) (.int v) = numK (ks ++ [y]) g := by
  rw [putK_new _ (numK_none h)]
  unfold numK
  rw [List.map_append, ← hv]
  rfl
/-- the names so far, ascending, each once -/
structure Asc (ks zs : List Str) : Prop where
  nd : ks.Nodup
  mem : ∀ m, m ∈ ks ↔ m ∈ zs
  pw : ks.Pairwise (fun a b => ltCps b.cps.toList a.cps.toList = false)
theorem Asc.sorted {ks zs : List Str} (h : Asc ks zs) : sortedS ks = true := sortedS_of_pairwise _ h.pw
theorem Asc.step {ks ys : List Str} {i : Nat} {y : Str} (h : Asc ks (ys.take i)) (hs : sortedS ys = true) (hy : ys[i]? = some y) : Asc (if y ∈ ks then ks else ks ++ [y]) (ys.take (i + 1)) := by
  have ht : ys.take (i + 1) = ys.take i ++ [y] := by rw [List.take_add_one, hy]; rfl
  by_cases hm : y ∈ ks
  · rw [if_pos hm]
    refine ⟨h.nd, fun m => ?_, h.pw⟩
    rw [ht, List.mem_append, h.mem m]
    constructor
    · exact .inl
    · rintro (z | z)
      · exact z
      · have : m = y := by simpa using z
        rw [this]; exact (h.mem y).mp hm
  · rw [if_neg hm]
    refine ⟨?_, fun m => ?_, ?_⟩
    · exact List.nodup_append.mpr ⟨h.nd, by simp, fun a ha b hb e => by
        have : b = y := by simpa using hb
        rw [e, this] at ha; exact hm ha⟩
    · rw [ht, List.mem_append, List.mem_append, h.mem m]
    · refine List.pairwise_append.mpr ⟨h.pw, List.pairwise_singleton _ _, fun a ha b hb => ?_⟩
      have : b = y := by simpa using hb
      subst this
      have pw := sorted_pw hs
      have : (ys.take (i + 1)).Pairwise (fun a b => ltCps b.cps.toList a.cps.toList = false) := pw.sublist (List.take_sublist _ _)
      rw [ht] at this
      exact (List.pairwise_append.mp this).2.2 a ((h.mem a).mp ha) b (by simp)
section
variable {P : Program} {w : World} {K : PySem.W.Frag} {mg : Str → Option Value} {base : Heap}
def spChkPc (C CP CB CE : Addr) : Sp := fun vs H Q E => ∃ x y : V, vs = [x, y] ∧ ShOr C CB H x E fun _ ps b => ∃ r, PcV CP H ps b y r ∧ ((r = true ∧ ∀ H', Same H H' → Q .non H') ∨ (r = false ∧ ∀ H', Same H H' → E (.ref CE) none H'))
theorem ok_chkPc {f fI C CP CB CE : Addr} {fd dI : FuncData} (F : Fun K "check_piece" "check_piece" sChkPc f fd) (pc : Df P w K mg base (L2.CX P w) 6 "is_piece_of" sIsPc ["sheet", "piece"] (spIsPc C CP CB) fI dI) (X : ErrC K mg "BadPiece" CE) : FnOk P w K mg base (L2.CX P w) 7 f fd ["sheet", "piece"] (spChkPc C CP CB CE) := by
  refine F.okX scChkPc (fun vs H Q E h => ?_) (fun cdv A outer s H vs Q E hr h => ?_)
  · obtain ⟨x, y, rfl, _⟩ := h
    rfl
  · obtain ⟨x, y, rfl, h⟩ := h
    refine ⟨_, pss_one (ps_if (pt_not (pt_val (pe_call pc.G hr (by rfl) pc.d.m pc.d.F.kp pc.d.b .nil (passes_call (takes_of rfl rfl rfl rfl) (fun _ _ _ _ h => h)) (pa_cons (pv 0) (pa_cons (pv 1) pa_nil)))))
      (pss_one (ps_raise rfl (takes_of rfl rfl rfl rfl) (pmk_own PySem.F.excBase_ValueError X.xc X.g X.k (raises_own X.b X.t) rfl))) pss_nil), ?_⟩
    refine ⟨_, rfl, _, rfl, x, y, rfl, ?_⟩
    rcases h with ⟨kd, hk, he⟩ | ⟨SH, pp, bp, np, ps, b, rfl, hS, pn, bn, r, hP, q⟩
    · exact .inl ⟨kd, hk, he⟩
    refine .inr ⟨SH, pp, bp, np, ps, b, rfl, hS, pn, bn, r, hP, fun H' s' => ⟨_, rfl, ?_⟩⟩
    rcases q with ⟨rfl, q⟩ | ⟨rfl, q⟩
    · show if (!true) = true then _ else _
      rw [if_neg (by decide)]
      exact q H' s'
    · show if (!false) = true then _ else _
      rw [if_pos (by decide)]
      exact q H' s'
/-- what a def that checks its piece first asks: k is what follows -/
def PcOr (C CP CB CE : Addr) (vs : List V) (H : Hp) (E : XK) (k : Addr → List (Str × Str) → List (Str × V) → Addr → Addr → Addr → List Str → List V → Prop) : Prop := ∃ x y : V, vs = [x, y] ∧ ShOr C CB H x E fun SH ps b => (PcV CP H ps b y false ∧ ∀ H', Same H H' → E (.ref CE) none H') ∨
  ∃ (p bt lt : Addr) (nms : List Str) (xs : List V), y = .ref p ∧ PcWf CP H p bt lt nms xs ∧ nms.all (fun m => (K1.look b m).isSome) = true ∧ FitV H ps b nms xs true ∧ k SH ps b p bt lt nms xs
def spRings (C CP CB CE : Addr) : Sp := fun vs H Q E => PcOr C CP CB CE vs H E fun _ _ _ _ _ _ nms xs => ∀ H', Same H H' → Q (.int ((xs.length : Int) - (nms.length : Int) + 1)) H'
theorem ok_rings {f fC C CP CB CE fL : Addr} {fd dC dL : FuncData} (F : Fun K "rings" "rings" sRings f fd) (ch : Df P w K mg base (L2.CX P w) 7 "check_piece" sChkPc ["sheet", "piece"] (spChkPc C CP CB CE) fC dC) (ml : Md P w K mg base CX0 1 CP "__len__" ["self"] (spPLen CP) fL dL) (Bt : Bi mg) (SP : ClsP K mg CP) :
    FnOk P w K mg base (L2.CX P w) 8 f fd ["sheet", "piece"] (spRings C CP CB CE) := by
  refine F.okX scRings (fun vs H Q E h => ?_) (fun cdv A outer s H vs Q E hr h => ?_)
  · obtain ⟨x, y, rfl, _⟩ := h
    rfl
  · obtain ⟨x, y, rfl, h⟩ := h
    refine ⟨_, pss_cons (ps_expr (pe_call ch.G hr (by rfl) ch.d.m ch.d.F.kp ch.d.b .nil (passes_call (takes_of rfl rfl rfl rfl) (fun _ _ _ _ h => h)) (pa_cons (pv 0) (pa_cons (pv 1) pa_nil))))
      (pss_one (ps_ret (pe_op op_add (pe_op op_sub (pe_callB call_len_seq (by rfl) Bt.len PySem.boot_len (pa_cons (pe_fld (pv 1) rfl) pa_nil)) (pe_callB (call_lenOwn ml.G ml.m.at_ ml.m.fn ml.b pass0 (hr.mono (by decide))) (by rfl) Bt.len PySem.boot_len (pa_cons (pv 1) pa_nil))) pe_int))), ?_⟩
    refine ⟨_, rfl, _, rfl, x, y, rfl, ?_⟩
    rcases h with ⟨kd, hk, he⟩ | ⟨SH, pp, bp, np, ps, b, rfl, hS, pn, bn, h⟩
    · exact .inl ⟨kd, hk, he⟩
    rcases h with ⟨hP, he⟩ | ⟨p, bt, lt, nms, xs, rfl, wf, hall, hfit, q⟩
    · exact .inr ⟨SH, pp, bp, np, ps, b, rfl, hS, pn, bn, false, hP, .inr ⟨rfl, he⟩⟩
    refine .inr ⟨SH, pp, bp, np, ps, b, rfl, hS, pn, bn, true, .fit wf hall hfit, .inl ⟨rfl, fun H1 s1 => ?_⟩⟩
    have at1 := wf.at_.same s1
    obtain ⟨⟨dy, oy⟩, hb, hl⟩ := id at1
    refine ⟨_, rfl, p, CP, dy, _, _, rfl, oy, SP.cl, SP.nL, pfl_l _ _, lt, xs, rfl, .inr (SqT.of hl), _, rfl, p, dy, _, rfl, oy, p, bt, lt, _, xs, rfl, at1, _, rfl, ⟨by omega, ?_⟩, _, _, rfl, rfl, _, _, rfl, rfl, ?_⟩
    · rw [List.length_map]
      have := wf.n2
      omega
    · rw [List.length_map]
      exact q H1 s1
end
end K1

set_option Elab.async false
set_option linter.all false
set_option maxRecDepth 100000
set_option maxHeartbeats 2000000
namespace K1
open PySem PySem.Spec PyProof.Rows L2
abbrev sAmts : Stmt := topS 37
theorem scAmts : FnScope ["sheet", "piece", "amounts", "name"] ["sheet", "piece"] (defScope sAmts) := ⟨rfl, rfl, rfl, by decide +kernel, rfl, by decide +kernel, by decide +kernel⟩
theorem numK_len (ks : List Str) (g : Str → Int) : (numK ks g).length = ks.length := List.length_map ..
theorem nd_len {α : Type} [DecidableEq α] {l m : List α} (h : l.Nodup) (k : ∀ x ∈ l, x ∈ m) : l.length ≤ m.length := sub_len h k
section
variable {P : Program} {w : World} {K : PySem.W.Frag} {mg : Str → Option Value} {base : Heap}
def spAmts (C CP CB CE : Addr) : Sp := fun vs H Q E => PcOr C CP CB CE vs H E fun _ _ _ _ _ _ nms xs => ∀ (D : Addr) (ks : List Str) (H' : Hp), H D = none → H' D = some (.dK (numK ks fun m => ((nms.count m : Nat) : Int))) → Asc ks nms → Same H H' → Q (.ref D) H'
theorem ok_amts {f fC C CP CB CE : Addr} {fd dC : FuncData} (F : Fun K "amounts_of" "amounts_of" sAmts f fd) (ch : Df P w K mg base (L2.CX P w) 7 "check_piece" sChkPc ["sheet", "piece"] (spChkPc C CP CB CE) fC dC) (Bt : Bi mg) (SP : ClsP K mg CP) :
    FnOk P w K mg base (L2.CX P w) 8 f fd ["sheet", "piece"] (spAmts C CP CB CE) := by
  refine F.okX scAmts (fun vs H Q E h => ?_) (fun cdv A outer s H vs Q E hr h => ?_)
  · obtain ⟨x, y, rfl, _⟩ := h
    rfl
  · obtain ⟨x, y, rfl, h⟩ := h
    have hu := hu_of hr
    have hu1 : (A.deeper (envOfC "amounts_of" (defScope sAmts) s.heap.objs.size f cdv)).units + 64 < cLine := h64_of hr
    refine ⟨_, pss_cons (ps_expr (pe_call ch.G hr (by rfl) ch.d.m ch.d.F.kp ch.d.b .nil (passes_call (takes_of rfl rfl rfl rfl) (fun _ _ _ _ h => h)) (pa_cons (pv 0) (pa_cons (pv 1) pa_nil))))
      (PSs.nox (pss_cons (set_dict1 (i := 2) (own := [("name", 3)]) (go := gName 3) rfl scAmts.nd rfl rfl (by rfl) (pi_list (pe_callB (call_sortedT hu1) (by rfl) Bt.sorted boot_sorted (pa_cons (pe_fld (pv 1) rfl) pa_nil)))
          (blkOk_by (own := [("name", 3)]) (N := ["sheet", "piece", "amounts", "name"]) (sc := defScope sAmts) (by decide +kernel)) (fun _ _ _ _ _ => pg_name (i := 3) scAmts.nd rfl (Or.inl rfl)) (fun _ _ _ _ _ => pv 3) (fun _ _ _ _ _ => pe_int))
      (pss_cons (ps_for PassesOwn.never rfl (pi_tup (pe_fld (pv 1) rfl)) (pg_name (i := 3) scAmts.nd rfl (.inl rfl)) (pss_one (ps_daug hu (pv 2) (pv 3) pe_int in_add (fun _ _ _ => rfl))))
      (pss_one (ps_ret (pv 2)))))), ?_⟩
    refine ⟨_, rfl, _, rfl, x, y, rfl, ?_⟩
    rcases h with ⟨kd, hk, he⟩ | ⟨SH, pp, bp, np, ps, b, rfl, hS, pn, bn, h⟩
    · exact .inl ⟨kd, hk, he⟩
    rcases h with ⟨hP, he⟩ | ⟨p, bt, lt, nms, xs, rfl, wf, hall, hfit, q⟩
    · exact .inr ⟨SH, pp, bp, np, ps, b, rfl, hS, pn, bn, false, hP, .inr ⟨rfl, he⟩⟩
    refine .inr ⟨SH, pp, bp, np, ps, b, rfl, hS, pn, bn, true, .fit wf hall hfit, .inl ⟨rfl, fun H1 s1 => ?_⟩⟩
    obtain ⟨⟨dy, oy⟩, hb, hl⟩ := wf.at_.same s1
    have n2 := wf.n2
    delta tNext tSeq tAsg
    refine ⟨_, rfl, p, CP, dy, _, _, rfl, oy, SP.cl, SP.nB, pfl_b _ _, bt, nms, rfl, .inr hb, fun ys sp perm srt nsp => ⟨sp, rfl, ⟨_, SqL.of upd_same⟩, fun D nD => ?_⟩⟩
    have s2 : Same H1 (upd H1 sp (.lst (ys.map V.str))) := same_upd nsp
    have e2 : (upd H1 sp (.lst (ys.map V.str))) sp = some (.lst (ys.map V.str)) := upd_same
    generalize (upd H1 sp (.lst (ys.map V.str))) = H2 at s2 e2 nD ⊢
    have yl : ys.length = nms.length := perm.length_eq
    refine dc_list (K := K) (a := sp) (xs := ys.map V.str) (fun i H3 => ∃ ks, H3 D = some (.dK (numK ks fun _ => 0)) ∧ Asc ks (ys.take i) ∧ ∀ c o, c ≠ D → H2 c = some o → H3 c = some o) ⟨[], upd_same, ⟨List.nodup_nil, fun m => by simp, List.Pairwise.nil⟩, fun c o n e => by rw [upd_ne n]; exact e⟩
      (fun i H3 _ ⟨_, _, _, k⟩ => SqL.of (k _ _ (ne_of_none e2 nD) e2)) ?_ ?_
    · rintro i z H3 hz ⟨ks, g1, g2, g3⟩
      rw [List.getElem?_map] at hz
      cases hm : ys[i]? with
      | none => rw [hm] at hz; cases hz
      | some m =>
      rw [hm] at hz
      cases hz
      have hi : i < ys.length := (List.getElem?_eq_some_iff.mp hm).1
      have kl : ks.length ≤ ys.length := nd_len g2.nd fun x hx => List.mem_of_mem_take ((g2.mem x).mp hx)
      refine ⟨rfl, _, rfl, _, Sum.inr m, rfl, g1, by rw [numK_len]; exact small1000 (by omega), _, ?_, g2.step srt hm, fun c o n e => by rw [upd_ne n]; exact g3 c o n e⟩
      rw [upd_same]
      by_cases hmk : m ∈ ks
      · rw [if_pos hmk, numK_put hmk]
        congr 2
        unfold numK
        refine List.map_congr_left fun z _ => ?_
        show ((Sum.inr z : Key), V.int (if z = m then 0 else 0)) = _
        split <;> rfl
      · rw [if_neg hmk, numK_new hmk 0 rfl]
    rintro H3 ⟨ks, g1, g2, g3⟩
    rw [List.length_map, List.take_length] at g2
    have s3 : Same H2 H3 := fun c o e => g3 c o (ne_of_none e nD) e
    have s23 := s2.trans s3
    have nD1 : H1 D = none := by
      cases e : H1 D with
      | none => rfl
      | some o => rw [s2 _ _ e] at nD; cases nD
    have asc : Asc ks nms := ⟨g2.nd, fun m => (g2.mem m).trans perm.mem_iff, g2.pw⟩
    have kl : ks.length ≤ nms.length := nd_len asc.nd fun x hx => (asc.mem x).mp hx
    refine ⟨_, rfl, p, CP, dy, _, _, rfl, s23 _ _ oy, SP.cl, SP.nB, pfl_b _ _, bt, rfl, ⟨_, SqT.of (s23 _ _ hb)⟩, ?_⟩
    refine for_tup (K := K) (a := bt) (xs := nms.map V.str) (fun i σ H4 => (∃ v3, σ = [some (.ref SH), some (.ref p), some (.ref D), v3]) ∧ H4 D = some (.dK (numK ks fun m => (((nms.take i).count m : Nat) : Int))) ∧ ∀ c o, c ≠ D → H1 c = some o → H4 c = some o)
      ⟨⟨_, rfl⟩, by rw [g1, List.take_zero]; rfl, fun c o n e => s23 _ _ e⟩ (fun i σ H4 _ ⟨_, _, k⟩ => SqT.of (k _ _ (ne_of_none hb nD1) hb)) ?_ ?_
    · rintro i z σ H4 hz ⟨⟨v3, rfl⟩, k1, k2⟩
      rw [List.getElem?_map] at hz
      cases hm : nms[i]? with
      | none => rw [hm] at hz; cases hz
      | some m =>
      rw [hm] at hz
      cases hz
      have hmk : m ∈ ks := (asc.mem m).mpr (List.mem_of_getElem? hm)
      refine ⟨_, rfl, _, rfl, D, .int (((nms.take i).count m : Nat) : Int), rfl, ?_, _, _, rfl, rfl, _, DPut.k (k := Sum.inr m) k1 (by rw [numK_len]; exact small1000 (by omega)), ⟨_, rfl⟩, ?_, fun c o n e => by rw [upd_ne n]; exact k2 c o n e⟩
      · have := DGet.k (k := Sum.inr m) k1
        rw [numK_some hmk] at this
        exact this
      · rw [upd_same, numK_put hmk]
        congr 2
        unfold numK
        refine List.map_congr_left fun z _ => ?_
        show ((Sum.inr z : Key), V.int (if z = m then _ else _)) = _
        rw [List.take_add_one, hm]
        dsimp only
        rw [List.count_append]
        by_cases e : z = m
        · subst e
          rw [if_pos rfl]
          simp
        · rw [if_neg e]
          have : List.count z (some m).toList = 0 := by
            rw [List.count_eq_zero]
            intro h
            exact e (by simpa using h)
          rw [this]
          rfl
    · rintro σ H4 ⟨⟨v3, rfl⟩, k1, k2⟩
      rw [List.length_map, List.take_length] at k1
      have nD0 : H D = none := by
        cases e : H D with
        | none => rfl
        | some o => rw [s1 _ _ e] at nD1; cases nD1
      exact ⟨_, rfl, q D ks H4 nD0 k1 asc (s1.trans fun c o e => k2 c o (ne_of_none e nD1) e)⟩
end
end K1

set_option Elab.async false
set_option linter.all false
set_option maxRecDepth 100000
set_option maxHeartbeats 2000000
namespace K1
open PySem PySem.Spec PyProof.Rows L2
/-- a walk over the list or tuple o at a, with the numbers of its items -/
structure EnumJ (J : It) (a : Addr) (o : HO) (xs : List V) : Prop where
  go : ∀ i H, H a = some o → i < xs.length → J.go i H
  stop : ∀ H, H a = some o → J.stop xs.length H
  yld : ∀ i H v H', H a = some o → J.yld i H v H' → ∃ T x, v = .ref T ∧ H T = none ∧ H' = upd H T (.tup [.int (i : Nat), x]) ∧ xs[i]? = some x
theorem enumJ_list {K : PySem.W.Frag} {a : Addr} {xs : List V} : EnumJ (Ite K a) a (.lst xs) xs :=
  ⟨fun i H h hi => ⟨xs, xs[i], SqL.of h, by simp [hi]⟩, fun H h => ⟨xs, SqL.of h, Nat.le_refl _⟩, fun i H v H' h ⟨T, x, e1, e2, e3, e4⟩ => ⟨T, x, e1, e2, e3, e4 xs (SqL.of h)⟩⟩
theorem enumJ_tup {K : PySem.W.Frag} {a : Addr} {xs : List V} : EnumJ (IeT K a xs.length) a (.tup xs) xs :=
  ⟨fun i H h hi => ⟨hi, xs, xs[i], SqT.of h, by simp [hi]⟩, fun H h => ⟨Nat.le_refl _, xs, SqT.of h, rfl⟩, fun i H v H' h ⟨T, x, e1, e2, e3, e4⟩ => ⟨T, x, e1, e2, e3, e4 xs (SqT.of h)⟩⟩
def SeqO (o : HO) (xs : List V) : Prop := o = .lst xs ∨ o = .tup xs
def iEnum2 (te : TE) : TI := fun σ H R => te σ H fun x H1 => ∃ a xs o, x = .ref a ∧ SeqO o xs ∧ H1 a = some o ∧ ∀ J, EnumJ J a o xs → R J H1
theorem pi_enum2 {X : Cx} {e : Expr} {te : TE} {p pos tpos : Pos} {elts : List Expr} {kk : Nat} (hg : Gl X "enumerate") (hm : X.mg "enumerate" = none) (he : PE X e te) (hs : starEach [e] X.env = (false, eval e X.env) :: starEach [] X.env := by rfl) :
    PI X (.Tuple elts kk tpos) (.Call (.Name "enumerate" p) [e] [] pos) (iEnum2 te) := by
  refine ⟨fun pins s σ H R I h => ?_⟩
  refine Call_ (ld_blt I hg hm boot_enumerate (PyProof.Rows.callWith_type1 (args_cons (thn (he.run pins s σ H _ I h) fun u s1 ⟨v, H1, I1, r1, q1⟩ => args_nil ?_) hs) hs rfl))
  obtain ⟨a, xs, o, ev, ho, ha, q⟩ := q1
  subst ev
  cases (show u = Value.ref a from r1)
  have fresh : ∀ b ∈ [s1.heap.objs.size + 1, s1.heap.objs.size], FpOk X pins H1 b := fun b hb => by
    have hle : s1.heap.objs.size ≤ b := by
      rcases (show b = s1.heap.objs.size + 1 ∨ b = s1.heap.objs.size by simpa using hb) with z | z
      · rw [z]; exact Nat.le_add_right _ _
      · rw [z]; exact Nat.le_refl _
    exact I1.fpOk hle (I1.hok.fresh hle)
  rcases ho with rfl | rfl
  · obtain ⟨its, rv, pl, hz⟩ := I1.list (SqL.of ha)
    refine call_enumerate_list pl.isList fun h' hen hit _ hk => wpAny_pyIter_enum hen ?_
    exact ⟨s1.heap.objs.size + 1, [s1.heap.objs.size + 1, s1.heap.objs.size], _, _, H1, rfl, I1.kept (t' := s1.toks) hk, turn_enum a (s1.heap.objs.size + 1) s1.heap.objs.size, ⟨⟨.none, hen⟩, hit, Nat.succ_ne_self _⟩, fresh, q _ enumJ_list⟩
  · obtain ⟨its, rv, pt, hz⟩ := I1.tuple (SqT.of ha)
    refine call_enumT pt fun h' hen hit hk => wpAny_pyIter_enum hen ?_
    exact ⟨s1.heap.objs.size + 1, [s1.heap.objs.size + 1, s1.heap.objs.size], _, _, H1, rfl, I1.kept (t' := s1.toks) hk, turn_enumT a (s1.heap.objs.size + 1) s1.heap.objs.size xs.length, ⟨⟨.none, hen⟩, hit, Nat.succ_ne_self _, Nat.zero_le _⟩, fresh, q _ enumJ_tup⟩
/-- a for over it -/
theorem for_enum {J : It} {a : Addr} {o : HO} {xs : List V} (hJ : EnumJ J a o xs) {g : TG} {tb : TS} {D : L2.Ends} {σ : L2.St} {H : Hp} (Pv : Nat → L2.St → Hp → Prop) (h0 : Pv 0 σ H) (hl : ∀ i σ H, Pv i σ H → H a = some o)
    (hs : ∀ i x T σ H, xs[i]? = some x → Pv i σ H → H T = none → g (.ref T) σ (upd H T (.tup [.int (i : Nat), x])) fun σ2 H2 => tb { D with nx := Pv (i + 1), ct := Pv (i + 1), bk := D.nx } σ2 H2) (hd : ∀ σ H, Pv xs.length σ H → D.nx σ H) :
    ∃ W : Nat → Nat → L2.St → Hp → Prop, (∃ m, W 0 m σ H) ∧ ∀ i m σ H, W i m σ H →
      (J.stop i H ∧ D.nx σ H) ∨ (J.go i H ∧ ∃ N : L2.St → Hp → Prop, (∀ σ' H', N σ' H' → ∃ m', m' < m ∧ W (i + 1) m' σ' H') ∧ ∀ x H', J.yld i H x H' → g x σ H' fun σ2 H2 => tb { D with nx := N, ct := N, bk := D.nx } σ2 H2) := by
  refine ⟨fun i m σ H => m = xs.length - i ∧ i ≤ xs.length ∧ Pv i σ H, ⟨xs.length, by simp, Nat.zero_le _, h0⟩, ?_⟩
  rintro i m σ H ⟨rfl, hi, p⟩
  have q := hl i σ H p
  by_cases hlt : i < xs.length
  · refine .inr ⟨hJ.go i H q hlt, Pv (i + 1), fun σ' H' p' => ⟨xs.length - (i + 1), by omega, rfl, hlt, p'⟩, fun v H' y => ?_⟩
    obtain ⟨T, x, rfl, nT, rfl, hx⟩ := hJ.yld i H v H' q y
    exact hs i x T σ H hx p nT
  · obtain rfl : i = xs.length := by omega
    exact .inl ⟨hJ.stop H q, hd σ H p⟩
/-- a list comprehension over it -/
theorem lc_enum {J : It} {a : Addr} {o : HO} {xs : List V} (hJ : EnumJ J a o xs) {g : TG} {tt : TT} {te : TE} {vs : List Nat} {σ : L2.St} {H1 : Hp} {D : Addr} {Qd : Hp → Prop} (Pv : Nat → Hp → Prop) (h0 : Pv 0 (upd H1 D (.lst []))) (hl : ∀ i H, Pv i H → H a = some o)
    (hs : ∀ i x T H, xs[i]? = some x → Pv i H → H T = none → g (.ref T) (wipe σ vs) (upd H T (.tup [.int (i : Nat), x])) fun σ2 H2 => wipe σ2 vs = wipe σ vs ∧ tt σ2 H2 fun b H3 =>
      if b = true then te σ2 H3 fun y H4 => ∃ acc, H4 D = some (.lst acc) ∧ acc.length < sizeLine ∧ Pv (i + 1) (upd H4 D (.lst (acc ++ [y]))) else Pv (i + 1) H3) (hd : ∀ H, Pv xs.length H → Qd H) :
    ∃ W : Nat → Nat → Hp → Prop, (∃ m, W 0 m (upd H1 D (.lst []))) ∧ ∀ i m H, W i m H →
      (J.stop i H ∧ Qd H) ∨ (J.go i H ∧ ∃ Nx : Hp → Prop, (∀ H', Nx H' → ∃ m', m' < m ∧ W (i + 1) m' H') ∧ ∀ x H', J.yld i H x H' → g x (wipe σ vs) H' fun σ2 H2 => wipe σ2 vs = wipe σ vs ∧ tt σ2 H2 fun b H3 =>
        if b = true then te σ2 H3 fun y H4 => ∃ acc, H4 D = some (.lst acc) ∧ acc.length < sizeLine ∧ Nx (upd H4 D (.lst (acc ++ [y]))) else Nx H3) := by
  refine ⟨fun i m H => m = xs.length - i ∧ i ≤ xs.length ∧ Pv i H, ⟨xs.length, by simp, Nat.zero_le _, h0⟩, ?_⟩
  rintro i m H ⟨rfl, hi, p⟩
  have q := hl i H p
  by_cases hlt : i < xs.length
  · refine .inr ⟨hJ.go i H q hlt, Pv (i + 1), fun H' p' => ⟨xs.length - (i + 1), by omega, rfl, hlt, p'⟩, fun v H' y => ?_⟩
    obtain ⟨T, x, rfl, nT, rfl, hx⟩ := hJ.yld i H v H' q y
    exact hs i x T H hx p nT
  · obtain rfl : i = xs.length := by omega
    exact .inl ⟨hJ.stop H q, hd H p⟩
/-- what the second walk of a comprehension over two sources must show -/
def Inner (J1 : It) (g1 : TG) (tt1 : TT) (te : TE) (vs1 : List Nat) (τ : L2.St) (D : Addr) (Nx : Hp → Prop) (H4 : Hp) : Prop := ∃ W1 : Nat → Nat → Hp → Prop, (∃ m, W1 0 m H4) ∧ ∀ j k H, W1 j k H →
  (J1.stop j H ∧ Nx H) ∨ (J1.go j H ∧ ∃ Nx1 : Hp → Prop, (∀ H', Nx1 H' → ∃ k', k' < k ∧ W1 (j + 1) k' H') ∧ ∀ x H', J1.yld j H x H' → g1 x (wipe τ vs1) H' fun σ3 H5 => wipe σ3 vs1 = wipe τ vs1 ∧ tt1 σ3 H5 fun b H6 =>
    if b = true then te σ3 H6 fun y H7 => ∃ acc, H7 D = some (.lst acc) ∧ acc.length < sizeLine ∧ Nx1 (upd H7 D (.lst (acc ++ [y]))) else Nx1 H6)
/-- a comprehension over two sources, the first an enumerate -/
theorem lc2_enum {J : It} {a : Addr} {o : HO} {xs : List V} (hJ : EnumJ J a o xs) {g g1 : TG} {tt tt1 : TT} {wi1 : TI} {te : TE} {vs vs1 : List Nat} {σ : L2.St} {H1 : Hp} {D : Addr} {Qd : Hp → Prop} (Pv : Nat → Hp → Prop) (h0 : Pv 0 (upd H1 D (.lst []))) (hl : ∀ i H, Pv i H → H a = some o)
    (hs : ∀ i x T H, xs[i]? = some x → Pv i H → H T = none → g (.ref T) (wipe σ vs) (upd H T (.tup [.int (i : Nat), x])) fun σ2 H2 => wipe σ2 vs = wipe σ vs ∧ tt σ2 H2 fun b H3 =>
      if b = true then wi1 σ2 H3 fun J1 H4 => Inner J1 g1 tt1 te vs1 σ2 D (Pv (i + 1)) H4 else Pv (i + 1) H3) (hd : ∀ H, Pv xs.length H → Qd H) :
    ∃ W : Nat → Nat → Hp → Prop, (∃ m, W 0 m (upd H1 D (.lst []))) ∧ ∀ i m H, W i m H →
      (J.stop i H ∧ Qd H) ∨ (J.go i H ∧ ∃ Nx : Hp → Prop, (∀ H', Nx H' → ∃ m', m' < m ∧ W (i + 1) m' H') ∧ ∀ x H', J.yld i H x H' → g x (wipe σ vs) H' fun σ2 H2 => wipe σ2 vs = wipe σ vs ∧ tt σ2 H2 fun b H3 =>
        if b = true then wi1 σ2 H3 fun J1 H4 => Inner J1 g1 tt1 te vs1 σ2 D Nx H4 else Nx H3) := by
  refine ⟨fun i m H => m = xs.length - i ∧ i ≤ xs.length ∧ Pv i H, ⟨xs.length, by simp, Nat.zero_le _, h0⟩, ?_⟩
  rintro i m H ⟨rfl, hi, p⟩
  have q := hl i H p
  by_cases hlt : i < xs.length
  · refine .inr ⟨hJ.go i H q hlt, Pv (i + 1), fun H' p' => ⟨xs.length - (i + 1), by omega, rfl, hlt, p'⟩, fun v H' y => ?_⟩
    obtain ⟨T, x, rfl, nT, rfl, hx⟩ := hJ.yld i H v H' q y
    exact hs i x T H hx p nT
  · obtain rfl : i = xs.length := by omega
    exact .inl ⟨hJ.stop H q, hd H p⟩
theorem inner_range {lo : Int} {n : Nat} {g1 : TG} {tt1 : TT} {te : TE} {vs1 : List Nat} {τ : L2.St} {D : Addr} {Nx : Hp → Prop} {H4 : Hp} (Pw : Nat → Hp → Prop) (h0 : Pw 0 H4)
    (hs : ∀ j H, j < n → Pw j H → g1 (.int (lo + j)) (wipe τ vs1) H fun σ3 H5 => wipe σ3 vs1 = wipe τ vs1 ∧ tt1 σ3 H5 fun b H6 => if b = true then te σ3 H6 fun y H7 => ∃ acc, H7 D = some (.lst acc) ∧ acc.length < sizeLine ∧ Pw (j + 1) (upd H7 D (.lst (acc ++ [y]))) else Pw (j + 1) H6)
    (hd : ∀ H, Pw n H → Nx H) : Inner (Itr lo n) g1 tt1 te vs1 τ D Nx H4 := by
  refine ⟨fun j k H => k = n - j ∧ j ≤ n ∧ Pw j H, ⟨n, by simp, Nat.zero_le _, h0⟩, ?_⟩
  rintro j k H ⟨rfl, hj, p⟩
  by_cases hlt : j < n
  · refine .inr ⟨hlt, Pw (j + 1), fun H' p' => ⟨n - (j + 1), by omega, rfl, hlt, p'⟩, fun x H' y => ?_⟩
    obtain ⟨e1, e2⟩ := y
    subst e1 e2
    exact hs j _ hlt p
  · obtain rfl : j = n := by omega
    exact .inl ⟨Nat.le_refl _, hd H p⟩
end K1

set_option Elab.async false
set_option linter.all false
set_option maxRecDepth 100000
set_option maxHeartbeats 2000000
namespace K1
open PySem PySem.Spec PyProof.Rows L2
abbrev sFree : Stmt := topS 35
theorem scFree : FnScope ["sheet", "piece", "facing", "places", "copy", "name", "end", "place"] ["sheet", "piece"] (defScope sFree) := ⟨rfl, rfl, rfl, by decide +kernel, rfl, by decide +kernel, by decide +kernel⟩
/-- a list of places -/
def PlsAt (H : Hp) (D : Addr) (qs : List Pl) : Prop := ∃ ts : List Addr, H D = some (.lst (ts.map V.ref)) ∧ ts.length = qs.length ∧ ∀ (i : Nat) t q, ts[i]? = some t → qs[i]? = some q → H t = some (.tup ((pK q).map kV))
theorem PlsAt.nil {H : Hp} {D : Addr} : PlsAt (upd H D (.lst [])) D [] := ⟨[], upd_same, rfl, fun i t q h => by simp at h⟩
theorem PlsAt.kept {H H' : Hp} {D : Addr} {qs : List Pl} (h : PlsAt H D qs) (e : Same H H') : PlsAt H' D qs := by
  obtain ⟨ts, h1, h2, h3⟩ := h
  exact ⟨ts, e _ _ h1, h2, fun i t q a b => e _ _ (h3 i t q a b)⟩
/-- one more -/
theorem PlsAt.push {H H' : Hp} {D T : Addr} {qs : List Pl} {q : Pl} {ts : List Addr} (h1 : H D = some (.lst (ts.map V.ref))) (h2 : ts.length = qs.length) (h3 : ∀ (i : Nat) t q, ts[i]? = some t → qs[i]? = some q → H t = some (.tup ((pK q).map kV)))
    (k : ∀ c o, c ≠ D → H c = some o → H' c = some o) (hT : H' T = some (.tup ((pK q).map kV))) (nT : T ≠ D) : PlsAt (upd H' D (.lst (ts.map V.ref ++ [.ref T]))) D (qs ++ [q]) := by
  refine ⟨ts ++ [T], by rw [upd_same, List.map_append]; rfl, by rw [List.length_append, List.length_append, h2]; rfl, fun i t p a b => ?_⟩
  by_cases hi : i < ts.length
  · rw [List.getElem?_append_left hi] at a
    rw [List.getElem?_append_left (by omega)] at b
    have ht := h3 i t p a b
    have nt : t ≠ D := ne_of ht h1 (by intro z; cases z)
    rw [upd_ne nt]
    exact k t _ nt ht
  · have e : i = ts.length := by
      have := (List.getElem?_eq_some_iff.mp a).1
      rw [List.length_append, List.length_singleton] at this
      omega
    subst e
    rw [List.getElem?_append_right (Nat.le_refl _)] at a
    rw [h2, List.getElem?_append_right (Nat.le_refl _)] at b
    simp at a b
    subst a b
    rw [upd_ne nT]
    exact hT
/-- all places of the first copies -/
def upTo (lens : List Nat) (i : Nat) : List Pl := (List.range i).flatMap fun c => (List.range (lens.getD c 0)).map fun e : Nat => ((c : Int), (e : Int))
theorem upTo_succ (lens : List Nat) (i : Nat) : upTo lens (i + 1) = upTo lens i ++ (List.range (lens.getD i 0)).map fun e : Nat => ((i : Int), (e : Int)) := by
  unfold upTo
  rw [List.range_succ, List.flatMap_append]
  simp
theorem upTo_len {lens : List Nat} (h : ∀ n ∈ lens, n ≤ 4) : ∀ i, (upTo lens i).length ≤ 4 * i
  | 0 => by simp [upTo]
  | i + 1 => by
    rw [upTo_succ, List.length_append, List.length_map, List.length_range]
    have := upTo_len h i
    have h4 : lens.getD i 0 ≤ 4 := by
      rw [List.getD_eq_getElem?_getD]
      cases hn : lens[i]? with
      | none => exact Nat.zero_le _
      | some n => exact h n (List.mem_of_getElem? hn)
    omega
theorem upTo_step {lens : List Nat} {i n : Nat} (h : lens[i]? = some n) : upTo lens (i + 1) = upTo lens i ++ (List.range n).map fun e : Nat => ((i : Int), (e : Int)) := by
  rw [upTo_succ, List.getD_eq_getElem?_getD, h]
  rfl
theorem PcWf.xl {C : Addr} {H : Hp} {p bt lt : Addr} {nms : List Str} {xs : List V} (h : PcWf C H p bt lt nms xs) : xs.length ≤ 200 := by
  have hl := h.at_.l
  have ln := h.ln
  generalize hv : V.ref lt = v at ln
  generalize hr : true = r at ln
  cases ln with
  | no => cases hr
  | bad => cases hr
  | good h1 h2 =>
    cases hv
    have e := h2.len
    rcases h1 with h1 | h1
    · rw [hl] at h1; cases h1
    · rw [hl] at h1; cases h1; exact e
/-- the free places -/
def freeP (lens : List Nat) (ls : List (Pl × Pl)) : List Pl := (upTo lens lens.length).filter fun q => !decide (q ∈ plsOf ls)
theorem mem_plsOf {ls : List (Pl × Pl)} {q : Pl} : q ∈ plsOf ls ↔ ∃ p ∈ ls, p.1 = q ∨ p.2 = q := by
  unfold plsOf
  rw [List.mem_flatMap]
  constructor
  · rintro ⟨p, hp, h⟩
    refine ⟨p, hp, ?_⟩
    simp at h
    rcases h with h | h
    · exact .inl h.symm
    · exact .inr h.symm
  · rintro ⟨p, hp, h⟩
    refine ⟨p, hp, ?_⟩
    simp
    rcases h with h | h
    · exact .inl h.symm
    · exact .inr h.symm
/-- the lengths of the blocks of copies -/
def LensV (H : Hp) (b : List (Str × V)) (nms : List Str) (lens : List Nat) : Prop := lens.length = nms.length ∧ (∀ n ∈ lens, n ≤ 4) ∧ ∀ (i : Nat) m n, nms[i]? = some m → lens[i]? = some n → ∃ (a : Addr) (xs : List V), K1.look b m = some (.ref a) ∧ H a = some (.tup xs) ∧ xs.length = n
section
variable {P : Program} {w : World} {K : PySem.W.Frag} {mg : Str → Option Value} {base : Heap}
def spFree (C CP CB CE : Addr) : Sp := fun vs H Q E => PcOr C CP CB CE vs H E fun _ _ b _ _ _ nms xs => ∃ (ls : List (Pl × Pl)) (lens : List Nat), xs.length = ls.length ∧ (∀ (i : Nat) x p, xs[i]? = some x → ls[i]? = some p → ∃ o1 o2, LkF H x o1 o2 p) ∧ LensV H b nms lens ∧
  ∀ (D : Addr) (H' : Hp), PlsAt H' D (freeP lens ls) → Same H H' → Q (.ref D) H'
theorem ok_free {f fC fF gE C CP CB CE CN : Addr} {fd dC dF dE : FuncData} (F : Fun K "free_ends" "free_ends" sFree f fd) (ch : Df P w K mg base (L2.CX P w) 7 "check_piece" sChkPc ["sheet", "piece"] (spChkPc C CP CB CE) fC dC)
    (cf : Df P w K mg base CX0 1 "facing_ends" sFacing ["links"] spFacing fF dF) (me : Md P w K mg base (L2.CX P w) 1 C "ends" ["self", "name"] (spGet C CN false) gE dE) (Bt : Bi mg) (S : ClsS K mg C) (SP : ClsP K mg CP) (mr : mg "range" = none) (men : mg "enumerate" = none) :
    FnOk P w K mg base (L2.CX P w) 8 f fd ["sheet", "piece"] (spFree C CP CB CE) := by
  refine F.okX scFree (fun vs H Q E h => ?_) (fun cdv A outer s H vs Q E hr h => ?_)
  · obtain ⟨x, y, rfl, h⟩ := h
    rfl
  · obtain ⟨x, y, rfl, h⟩ := h
    have hu := hu_of hr
    have r1 : Room 1 (A.deeper (envOfC "free_ends" (defScope sFree) s.heap.objs.size f cdv)) := hr.mono (by decide)
    refine ⟨_, pss_cons (ps_expr (pe_call ch.G hr (by rfl) ch.d.m ch.d.F.kp ch.d.b .nil (passes_call (takes_of rfl rfl rfl rfl) (fun _ _ _ _ h => h)) (pa_cons (pv 0) (pa_cons (pv 1) pa_nil))))
      (PSs.nox (pss_cons (ps_set (i := 2) scFree.nd rfl (.inr rfl) (pe_call cf.G r1 (by rfl) cf.d.m cf.d.F.kp cf.d.b .nil pass0 (pa_cons (pe_fld (pv 1) rfl) pa_nil)))
      (pss_cons (ps_setLc2 (i := 3) (own := [("copy", 4), ("name", 5), ("end", 6)]) (vs1 := [6]) (g := gTup K 2 (gCons (gName 4) (gCons (gName 5) gNil))) (g1 := gName 6) (tt := tYes) (tt1 := tYes) rfl scFree.nd rfl rfl (sw_true rfl rfl rfl (by decide +kernel)) (pi_enum2 rfl men (pe_fld (pv 1) rfl))
          (blkOk_by (own := [("copy", 4), ("name", 5), ("end", 6)]) (N := ["sheet", "piece", "facing", "places", "copy", "name", "end", "place"]) (sc := defScope sFree) (by decide +kernel)) (by decide)
          (fun _ _ _ _ _ => pg_tup rfl (pgs_cons (pg_name (i := 4) scFree.nd rfl (.inl rfl)) (pgs_cons (pg_name (i := 5) scFree.nd rfl (.inl rfl)) pgs_nil))) (fun _ _ _ _ _ => pts_nil)
          (fun _ _ _ _ _ => pi_range1 rfl mr (pa_cons (pe_callB call_len2 (by rfl) Bt.len PySem.boot_len (pa_cons (pe_meth (pv 0) S.cl me.m me.G r1 me.b .nil passF (pa_cons (pv 5) pa_nil)) pa_nil)) pa_nil))
          (fun _ _ _ _ _ => pg_name (i := 6) scFree.nd rfl (.inl rfl)) (fun _ _ _ _ _ => pts_nil) (fun _ _ _ _ _ => pe_tup (pa_cons (pv 4) (pa_cons (pv 6) pa_nil))))
      (pss_one (ps_ret (pe_lc (own := [("place", 7)]) (g := gName 7) rfl scFree.nd (pi_list (pv 3)) (blkOk_by (own := [("place", 7)]) (N := ["sheet", "piece", "facing", "places", "copy", "name", "end", "place"]) (sc := defScope sFree) (by decide +kernel))
          (fun _ _ _ _ _ => pg_name (i := 7) scFree.nd rfl (.inl rfl)) (fun _ _ _ _ _ => pts_one (pt_cmp (pc_dnotin hu (pv 7) (pv 2)))) (fun _ _ _ _ _ => pv 7))))))), ?_⟩
    refine ⟨_, rfl, _, rfl, x, y, rfl, ?_⟩
    rcases h with ⟨kd, hk, he⟩ | ⟨SH, pp, bp, np, ps, b, rfl, hS, pn, bn, h⟩
    · exact .inl ⟨kd, hk, he⟩
    rcases h with ⟨hP, he⟩ | ⟨p, bt, lt, nms, xs, rfl, wf, hall, hfit, ls, lens, hxl, hlk, hln, q⟩
    · exact .inr ⟨SH, pp, bp, np, ps, b, rfl, hS, pn, bn, false, hP, .inr ⟨rfl, he⟩⟩
    refine .inr ⟨SH, pp, bp, np, ps, b, rfl, hS, pn, bn, true, .fit wf hall hfit, .inl ⟨rfl, fun H1 s1 => ?_⟩⟩
    have wf1 := wf.same s1
    obtain ⟨⟨dy, oy⟩, hb, hl⟩ := wf1.at_
    have x2 := wf.xl
    have n2 := wf.n2
    refine ⟨_, rfl, p, CP, dy, _, _, rfl, oy, SP.cl, SP.nL, pfl_l _ _, lt, xs, ls, rfl, .inr hl, hxl, by omega, fun i x p a c => ?_, fun Df kvs H2 nDf hDf hF s2 => ?_⟩
    · obtain ⟨o1, o2, z⟩ := hlk i x p a c
      exact ⟨o1, o2, z.kept s1⟩
    delta tNext tSeq tAsg
    dsimp only
    have s12 := s1.trans s2
    have hS2 := hS.same s12
    obtain ⟨dx, ox⟩ := hS2.ob
    obtain ⟨hl1, hl4, hle⟩ := hln
    refine ⟨_, rfl, p, CP, dy, _, _, rfl, s2 _ _ oy, SP.cl, SP.nB, pfl_b _ _, bt, nms.map V.str, .tup (nms.map V.str), rfl, .inr rfl, s2 _ _ hb, fun J hJ L nL => ?_⟩
    refine lc2_enum hJ (fun i G => PlsAt G L (upTo lens i) ∧ ∀ c o, c ≠ L → H2 c = some o → G c = some o) ⟨PlsAt.nil, fun c o n e => by rw [upd_ne n]; exact e⟩ (fun i G p => p.2 _ _ (ne_of_none (s2 _ _ hb) nL) (s2 _ _ hb)) ?_ ?_
    · rintro i z T G hz ⟨g1, g2⟩ nT
      rw [List.getElem?_map] at hz
      cases hm : nms[i]? with
      | none => rw [hm] at hz; cases hz
      | some m =>
      rw [hm] at hz
      cases hz
      have hi : i < nms.length := (List.getElem?_eq_some_iff.mp hm).1
      obtain ⟨n, hn⟩ : ∃ n, lens[i]? = some n := ⟨_, List.getElem?_eq_getElem (by omega)⟩
      have n4 := hl4 n (List.mem_of_getElem? hn)
      obtain ⟨a, es, ha, hat, hen⟩ := hle i m n hm hn
      have sg : Same H2 G := fun c o e => g2 c o (ne_of_none e nL) e
      have st : Same G (upd G T (.tup [.int (i : Nat), .str m])) := same_upd nT
      have eT : (upd G T (.tup [.int (i : Nat), .str m])) T = some (.tup [.int (i : Nat), .str m]) := upd_same
      have g1' := g1.kept st
      generalize (upd G T (.tup [.int (i : Nat), .str m])) = G1 at st eT g1' ⊢
      have sG1 := sg.trans st
      refine ⟨T, _, rfl, SqT.of eT, rfl, _, _, rfl, _, _, rfl, rfl, rfl, ?_⟩
      refine ⟨_, rfl, SH, dx, _, rfl, sG1 _ _ ox, flds_no _ _ _ (by decide +kernel) (by decide +kernel) (by decide +kernel), _, rfl, ?_⟩
      refine ⟨SH, pp, bp, np, pl ps, b, .str m, .str m, rfl, hS2.same sG1, .str _, bn, .inl ⟨m, .ref a, rfl, ha, ?_⟩⟩
      refine ⟨a, es, rfl, .inr (sG1 _ _ (s12 _ _ hat)), _, rfl, by omega, by omega, ?_⟩
      refine inner_range (lo := 0) (n := (es.length : Int).toNat) (fun j G => PlsAt G L (upTo lens i ++ (List.range j).map fun e : Nat => ((i : Int), (e : Int))) ∧ ∀ c o, c ≠ L → H2 c = some o → G c = some o) ⟨by simpa using g1', fun c o n e => st _ _ (g2 c o n e)⟩ ?_ ?_
      · rintro j G2 hj ⟨⟨ts, t1, t2, t3⟩, k2⟩
        refine ⟨rfl, _, rfl, _, rfl, Nat.le_of_lt (small1000 (n := 2) (by decide)), fun T2 nT2 => ?_⟩
        have ul := upTo_len hl4 i
        refine ⟨_, by rw [upd_ne (ne_of_none t1 nT2)]; exact t1, ?_, ?_, fun c o n e => by rw [upd_ne n, upd_ne (ne_of_none (k2 c o n e) nT2)]; exact k2 c o n e⟩
        · rw [List.length_map, t2, List.length_append, List.length_map, List.length_range]
          exact small1000 (by omega)
        · rw [List.range_succ, List.map_append, ← List.append_assoc]
          refine PlsAt.push t1 t2 t3 (fun c o n e => by rw [upd_ne (ne_of_none e nT2)]; exact e) ?_ (fun z => by rw [z, t1] at nT2; cases nT2)
          rw [upd_same]
          show some (HO.tup [.int (i : Nat), .int (0 + (j : Int))]) = some (HO.tup [.int ((i : Nat) : Int), .int (j : Int)])
          rw [Int.zero_add]
      · rintro G2 ⟨t1, k2⟩
        rw [upTo_step hn]
        have : (es.length : Int).toNat = n := by omega
        rw [this] at t1
        exact ⟨t1, k2⟩
    rintro H3 ⟨⟨ts, t1, t2, t3⟩, k3⟩
    rw [List.length_map] at t2 t3
    have s3 : Same H2 H3 := fun c o e => k3 c o (ne_of_none e nL) e
    refine ⟨_, rfl, L, rfl, ⟨_, SqL.of t1⟩, fun R nR => ?_⟩
    have nRL : R ≠ L := fun z => by rw [z, t1] at nR; cases nR
    have ul := upTo_len hl4 nms.length
    refine lc_list (K := K) (a := L) (xs := ts.map V.ref) (fun i G => PlsAt G R (((upTo lens nms.length).take i).filter fun q => !decide (q ∈ plsOf ls)) ∧ ∀ c o, c ≠ R → H3 c = some o → G c = some o) ⟨PlsAt.nil, fun c o n e => by rw [upd_ne n]; exact e⟩ (fun i G _ p => SqL.of (p.2 _ _ nRL.symm t1)) ?_ ?_
    · rintro i z G hz ⟨⟨us, u1, u2, u3⟩, k4⟩
      rw [List.getElem?_map] at hz
      cases ht : ts[i]? with
      | none => rw [ht] at hz; cases hz
      | some t =>
      rw [ht] at hz
      cases hz
      have hi : i < ts.length := (List.getElem?_eq_some_iff.mp ht).1
      obtain ⟨q0, hq0⟩ : ∃ q0, (upTo lens nms.length)[i]? = some q0 := ⟨_, List.getElem?_eq_getElem (by omega)⟩
      have hT := t3 i t q0 ht hq0
      have hT' := k4 _ _ (ne_of_none hT nR) hT
      have hD' := k4 _ _ (ne_of_none (s3 _ _ hDf) nR) (s3 _ _ hDf)
      have mem : (valV kvs (pK q0)).isSome = decide (q0 ∈ plsOf ls) := by
        have := hF q0
        rw [← mem_plsOf] at this
        by_cases h : q0 ∈ plsOf ls
        · rw [decide_eq_true h]; exact this.mpr h
        · rw [decide_eq_false h]
          cases hv : (valV kvs (pK q0)).isSome with
          | false => rfl
          | true => exact absurd (this.mp hv) h
      have tk : (upTo lens nms.length).take (i + 1) = (upTo lens nms.length).take i ++ [q0] := by rw [List.take_add_one, hq0]; rfl
      refine ⟨rfl, _, rfl, _, rfl, Df, _, rfl, DGet.t (k := pK q0) hD' hT', _, rfl, ?_⟩
      rw [mem]
      by_cases hm : q0 ∈ plsOf ls
      · rw [decide_eq_true hm]
        show if (!true) = true then _ else _
        rw [if_neg (by decide)]
        refine ⟨?_, k4⟩
        rw [tk, List.filter_append]
        have : ([q0].filter fun q => !decide (q ∈ plsOf ls)) = [] := by simp [hm]
        rw [this, List.append_nil]
        exact ⟨us, u1, u2, u3⟩
      · rw [decide_eq_false hm]
        show if (!false) = true then _ else _
        rw [if_pos (by decide)]
        refine ⟨_, rfl, _, u1, ?_, ?_, fun c o n e => by rw [upd_ne n]; exact k4 c o n e⟩
        · rw [List.length_map, u2]
          have h1 := List.length_filter_le (fun q => !decide (q ∈ plsOf ls)) ((upTo lens nms.length).take i)
          have h2 := List.length_take_le i (upTo lens nms.length)
          exact small1000 (by omega)
        · rw [tk, List.filter_append]
          have : ([q0].filter fun q => !decide (q ∈ plsOf ls)) = [q0] := by simp [hm]
          rw [this]
          exact PlsAt.push u1 u2 u3 (fun c o _ e => e) hT' (ne_of_none hT nR)
    · rintro G ⟨g1, k4⟩
      rw [List.length_map, t2, List.take_length] at g1
      refine q R G ?_ ((s12.trans s3).trans fun c o e => k4 c o (ne_of_none e nR) e)
      unfold freeP
      rw [hl1]
      exact g1
end
end K1

set_option Elab.async false
set_option linter.all false
set_option maxRecDepth 100000
set_option maxHeartbeats 2000000
namespace K1
open PySem PySem.Spec PyProof.Rows L2
abbrev sLEnds : Stmt := topS 49
abbrev sLFree : Stmt := topS 51
theorem scLEnds : FnScope ["sheet", "blocks", "found", "copy", "name", "end", "kind"] ["sheet", "blocks"] (defScope sLEnds) := ⟨rfl, rfl, rfl, by decide +kernel, rfl, by decide +kernel, by decide +kernel⟩
theorem scLFree : FnScope ["sheet", "blocks", "links", "used", "one", "two", "end"] ["sheet", "blocks", "links"] (defScope sLFree) := ⟨rfl, rfl, rfl, by decide +kernel, rfl, by decide +kernel, by decide +kernel⟩
/-- a list of tuples -/
def RfAt {α : Type} (f : α → List V) (H : Hp) (D : Addr) (qs : List α) : Prop := ∃ ts : List Addr, H D = some (.lst (ts.map V.ref)) ∧ ts.length = qs.length ∧ ∀ (i : Nat) t q, ts[i]? = some t → qs[i]? = some q → H t = some (.tup (f q))
theorem RfAt.nil {α : Type} {f : α → List V} {H : Hp} {D : Addr} : RfAt f (upd H D (.lst [])) D [] := ⟨[], upd_same, rfl, fun i t q h => by simp at h⟩
theorem RfAt.kept {α : Type} {f : α → List V} {H H' : Hp} {D : Addr} {qs : List α} (h : RfAt f H D qs) (e : Same H H') : RfAt f H' D qs := by
  obtain ⟨ts, h1, h2, h3⟩ := h
  exact ⟨ts, e _ _ h1, h2, fun i t q a b => e _ _ (h3 i t q a b)⟩
theorem RfAt.kp {α : Type} {f : α → List V} {H H' : Hp} {D d sc : Addr} {qs : List α} (h : RfAt f H D qs) (hD : DrawAt H d sc) (n : D ≠ d) (e : Kp d H H') : RfAt f H' D qs := by
  obtain ⟨ts, h1, h2, h3⟩ := h
  obtain ⟨ns, k, g1, _⟩ := hD.ex
  exact ⟨ts, e _ _ n h1, h2, fun i t q a b => e _ _ (ne_of (h3 i t q a b) g1 (by intro z; cases z)) (h3 i t q a b)⟩
/-- more of them -/
theorem RfAt.app {α : Type} {f : α → List V} {H H' : Hp} {D : Addr} {qs rs : List α} {ts us : List Addr} (h1 : H D = some (.lst (ts.map V.ref))) (h2 : ts.length = qs.length) (h3 : ∀ (i : Nat) t q, ts[i]? = some t → qs[i]? = some q → H t = some (.tup (f q)))
    (k : ∀ c o, c ≠ D → H c = some o → H' c = some o) (g2 : us.length = rs.length) (g3 : ∀ (i : Nat) t q, us[i]? = some t → rs[i]? = some q → t ≠ D ∧ H' t = some (.tup (f q))) : RfAt f (upd H' D (.lst (ts.map V.ref ++ us.map V.ref))) D (qs ++ rs) := by
  refine ⟨ts ++ us, by rw [upd_same, List.map_append], by rw [List.length_append, List.length_append, h2, g2], fun i t p a b => ?_⟩
  by_cases hi : i < ts.length
  · rw [List.getElem?_append_left hi] at a
    rw [List.getElem?_append_left (by omega)] at b
    have ht := h3 i t p a b
    have nt : t ≠ D := ne_of ht h1 (by intro z; cases z)
    rw [upd_ne nt]
    exact k t _ nt ht
  · rw [List.getElem?_append_right (by omega)] at a
    rw [List.getElem?_append_right (by omega)] at b
    rw [h2] at a
    obtain ⟨n, e⟩ := g3 _ _ _ a b
    rw [upd_ne n]
    exact e
theorem RfAt.push {α : Type} {f : α → List V} {H H' : Hp} {D T : Addr} {qs : List α} {q : α} {ts : List Addr} (h1 : H D = some (.lst (ts.map V.ref))) (h2 : ts.length = qs.length) (h3 : ∀ (i : Nat) t q, ts[i]? = some t → qs[i]? = some q → H t = some (.tup (f q)))
    (k : ∀ c o, c ≠ D → H c = some o → H' c = some o) (hT : H' T = some (.tup (f q))) (nT : T ≠ D) : RfAt f (upd H' D (.lst (ts.map V.ref ++ [.ref T]))) D (qs ++ [q]) :=
  RfAt.app (us := [T]) h1 h2 h3 k rfl fun i t p a b => by
    match i, a, b with
    | 0, a, b => cases a; cases b; exact ⟨nT, hT⟩
/-- an end with its kind: copy, end, kind -/
abbrev Tr := Nat × Nat × Str
def trV (q : Tr) : List V := [.int (q.1 : Int), .int (q.2.1 : Int), .str q.2.2]
/-- the ends of one copy -/
def trOf (i : Nat) (es : List Str) : List Tr := (List.range es.length).map fun e => (i, e, es.getD e "")
/-- the ends of the first copies -/
def trTo (ess : List (List Str)) (i : Nat) : List Tr := (List.range i).flatMap fun c => trOf c (ess.getD c [])
theorem trTo_step {ess : List (List Str)} {i : Nat} {es : List Str} (h : ess[i]? = some es) : trTo ess (i + 1) = trTo ess i ++ trOf i es := by
  unfold trTo
  rw [List.range_succ, List.flatMap_append]
  simp [List.getD_eq_getElem?_getD, h]
theorem trTo_len {ess : List (List Str)} (h : ∀ es ∈ ess, es.length ≤ 4) : ∀ i, (trTo ess i).length ≤ 4 * i
  | 0 => by simp [trTo]
  | i + 1 => by
    have ih := trTo_len h i
    cases he : ess[i]? with
    | some es =>
      rw [trTo_step he, List.length_append]
      have := h es (List.mem_of_getElem? he)
      unfold trOf
      rw [List.length_map, List.length_range]
      omega
    | none =>
      have e : trTo ess (i + 1) = trTo ess i := by
        unfold trTo
        rw [List.range_succ, List.flatMap_append]
        simp [List.getD_eq_getElem?_getD, he, trOf]
      rw [e]
      omega
/-- the ends of the blocks of copies -/
def EssV (H : Hp) (ps : List (Str × Str)) (bs : List (Str × Addr)) (nms : List Str) (ess : List (List Str)) : Prop := ess.length = nms.length ∧ ∀ (i : Nat) m es, nms[i]? = some m → ess[i]? = some es → ∃ t, K1.look bs m = some t ∧ Ends H ps t es
theorem Ends.same {H H' : Hp} {ps : List (Str × Str)} {t : Addr} {es : List Str} (h : Ends H ps t es) (e : TupK H H') : Ends H' ps t es := ⟨e _ _ h.1, h.2⟩
theorem EssV.same {H H' : Hp} {ps : List (Str × Str)} {bs : List (Str × Addr)} {nms : List Str} {ess : List (List Str)} (h : EssV H ps bs nms ess) (e : TupK H H') : EssV H' ps bs nms ess :=
  ⟨h.1, fun i m es a b => by
    obtain ⟨t, h1, h2⟩ := h.2 i m es a b
    exact ⟨t, h1, h2.same e⟩⟩
theorem EssV.four {H : Hp} {ps : List (Str × Str)} {bs : List (Str × Addr)} {nms : List Str} {ess : List (List Str)} (h : EssV H ps bs nms ess) : ∀ es ∈ ess, es.length ≤ 4 := fun es he => by
  obtain ⟨i, hi⟩ := List.getElem?_of_mem he
  have hl := (List.getElem?_eq_some_iff.mp hi).1
  obtain ⟨t, _, _, _, h4, _⟩ := h.2 i _ es (List.getElem?_eq_getElem (by rw [← h.1]; exact hl)) hi
  exact h4
theorem same_tupK {H H' : Hp} (e : Same H H') : TupK H H' := fun b xs h => e _ _ h
theorem Sq2.o {H : Hp} {a : Addr} {xs : List V} (h : Sq2 H a xs) : ∃ o, SeqO o xs ∧ H a = some o := h.elim (fun z => ⟨_, .inl rfl, z⟩) fun z => ⟨_, .inr rfl, z⟩
theorem SeqO.ne {H : Hp} {a D : Addr} {o : HO} {xs : List V} (h : H a = some o) (n : H D = none) : a ≠ D := ne_of_none h n
theorem getD_of {es : List Str} {j : Nat} {z : Str} (h : es[j]? = some z) : es.getD j "" = z := by rw [List.getD_eq_getElem?_getD, h]; rfl
theorem bk_val (bs : List (Str × Addr)) (m : Str) : valV (bk bs) (Sum.inr m) = (K1.look bs m).map V.ref := valV_map V.ref bs m
section
variable {P : Program} {w : World} {K : PySem.W.Frag} {mg : Str → Option Value} {base : Heap}
def spLEnds : Sp := fun vs H Q _ => ∃ (T A B Bk : Addr) (ps : List (Str × Str)) (bs : List (Str × Addr)) (nms : List Str) (ess : List (List Str)), vs = [.ref T, .ref Bk] ∧ H T = some (.lst [.ref A, .ref B]) ∧ H B = some (.dK (bk bs)) ∧ Sq2 H Bk (nms.map V.str) ∧ EssV H ps bs nms ess ∧ nms.length ≤ 200 ∧
  ∀ (L : Addr) (H' : Hp), H L = none → RfAt trV H' L (trTo ess nms.length) → Same H H' → Q (.ref L) H'
theorem ok_lends {f : Addr} {fd : FuncData} (F : Fun K "_law_ends" "_law_ends" sLEnds f fd) (men : mg "enumerate" = none) : FnOk P w K mg base CX0 1 f fd ["sheet", "blocks"] spLEnds := by
  refine F.ok scLEnds (fun vs H Q E h => ?_) (fun cdv A outer s H vs Q E hr h => ?_)
  · obtain ⟨T, D, B, Bk, ps, bs, nms, ess, rfl, _⟩ := h
    rfl
  · obtain ⟨T, D, B, Bk, ps, bs, nms, ess, rfl, hT, hB, hBk, hE, n2, q⟩ := h
    have hu := hu_of hr
    refine ⟨_, pss_cons (ps_set (i := 2) scLEnds.nd rfl (.inl rfl) (pe_lst pa_nil))
      (pss_cons (ps_for PassesOwn.never rfl (pi_enum2 rfl men (pv 1)) (pg_tup rfl (pgs_cons (pg_name (i := 3) scLEnds.nd rfl (.inr rfl)) (pgs_cons (pg_name (i := 4) scLEnds.nd rfl (.inl rfl)) pgs_nil)))
        (pss_one (ps_expr (pe_bm PySem.F.plainAttrs_list PySem.F.slot_list_extend PySem.F.type_list_extend mt_extend (pv 2) (pa_cons
          (pe_lc (own := [("end", 5), ("kind", 6)]) (g := gTup K 2 (gCons (gName 5) (gCons (gName 6) gNil))) (tt := tYes) rfl scLEnds.nd (pi_enum2 rfl men (pe_dget hu (pe_ix ix_list (pv 0) pe_int (fun _ _ => rfl)) (pv 4) (fun _ _ => rfl)))
            (blkOk_by (own := [("end", 5), ("kind", 6)]) (N := ["sheet", "blocks", "found", "copy", "name", "end", "kind"]) (sc := defScope sLEnds) (by decide +kernel))
            (fun _ _ _ _ _ => pg_tup rfl (pgs_cons (pg_name (i := 5) scLEnds.nd rfl (.inl rfl)) (pgs_cons (pg_name (i := 6) scLEnds.nd rfl (.inl rfl)) pgs_nil))) (fun _ _ _ _ _ => pts_nil)
            (fun _ _ _ _ _ => pe_tup (pa_cons (pv 3) (pa_cons (pv 5) (pa_cons (pv 6) pa_nil))))) pa_nil)))))
      (pss_one (ps_ret (pv 2)))), ?_⟩
    refine ⟨Nat.zero_le _, fun L nL => ?_⟩
    have s0 : Same H (upd H L (.lst [])) := same_upd nL
    obtain ⟨o, ho, hBo⟩ := hBk.o
    refine ⟨_, rfl, Bk, nms.map V.str, o, rfl, ho, s0 _ _ hBo, fun J hJ => ?_⟩
    refine for_enum hJ (fun i σ H' => (∃ v3 v4, σ = [some (.ref T), some (.ref Bk), some (.ref L), v3, v4, none, none]) ∧ RfAt trV H' L (trTo ess i) ∧ ∀ c o, c ≠ L → H c = some o → H' c = some o) ⟨⟨none, none, rfl⟩, RfAt.nil, fun c o n e => s0 _ _ e⟩
      (fun i σ H' p => p.2.2 _ _ (ne_of_none hBo nL) hBo) ?_ ?_
    · rintro i z T0 σ H1 hz ⟨⟨v3, v4, rfl⟩, ⟨ts, t1, t2, t3⟩, k1⟩ nT0
      rw [List.getElem?_map] at hz
      cases hm : nms[i]? with
      | none => rw [hm] at hz; cases hz
      | some m =>
      rw [hm] at hz
      cases hz
      have hi : i < nms.length := (List.getElem?_eq_some_iff.mp hm).1
      obtain ⟨es, he⟩ : ∃ es, ess[i]? = some es := ⟨_, List.getElem?_eq_getElem (by rw [hE.1]; exact hi)⟩
      obtain ⟨t, hbt, ht, e1, e4, hek⟩ := hE.2 i m es hm he
      have st : Same H1 (upd H1 T0 (.tup [.int (i : Nat), .str m])) := same_upd nT0
      have eT0 : (upd H1 T0 (.tup [.int (i : Nat), .str m])) T0 = some (.tup [.int (i : Nat), .str m]) := upd_same
      generalize (upd H1 T0 (.tup [.int (i : Nat), .str m])) = H2 at st eT0 ⊢
      have k2 : ∀ c o, c ≠ L → H c = some o → H2 c = some o := fun c o n e => st _ _ (k1 c o n e)
      have kk : ∀ {c o}, H c = some o → H2 c = some o := fun e => k2 _ _ (ne_of_none e nL) e
      refine ⟨T0, _, rfl, SqT.of eT0, rfl, _, _, rfl, _, _, rfl, rfl, ?_⟩
      refine ⟨_, rfl, .inl ⟨rfl, _, SqL.of (st _ _ t1)⟩, ?_⟩
      refine ⟨_, rfl, T, _, 1, _, rfl, rfl, SqL.of (kk hT), at_of (j := 1) rfl rfl, _, rfl, B, .ref t, rfl, ?_, t, es.map V.str, .tup (es.map V.str), rfl, .inr rfl, kk ht, fun J2 hJ2 D nD => ?_⟩
      · have := DGet.k (k := Sum.inr m) (kk hB)
        rw [bk_val, hbt] at this
        exact this
      refine lc_enum hJ2 (fun j G => RfAt trV G D ((List.range j).map fun e => (i, e, es.getD e "")) ∧ ∀ c o, c ≠ D → H2 c = some o → G c = some o) ⟨RfAt.nil, fun c o n e => by rw [upd_ne n]; exact e⟩ (fun j G p => p.2 _ _ (ne_of_none (kk ht) nD) (kk ht)) ?_ ?_
      · rintro j z T1 G hz ⟨⟨us, u1, u2, u3⟩, k3⟩ nT1
        rw [List.getElem?_map] at hz
        cases hx : es[j]? with
        | none => rw [hx] at hz; cases hz
        | some x =>
        rw [hx] at hz
        cases hz
        have hj : j < es.length := (List.getElem?_eq_some_iff.mp hx).1
        have sg : Same G (upd G T1 (.tup [.int (j : Nat), .str x])) := same_upd nT1
        have eT1 : (upd G T1 (.tup [.int (j : Nat), .str x])) T1 = some (.tup [.int (j : Nat), .str x]) := upd_same
        generalize (upd G T1 (.tup [.int (j : Nat), .str x])) = G1 at sg eT1 ⊢
        refine ⟨T1, _, rfl, SqT.of eT1, rfl, _, _, rfl, _, _, rfl, rfl, rfl, _, rfl, _, rfl, _, rfl, Nat.le_of_lt (small1000 (n := 3) (by decide)), fun T3 nT3 => ?_⟩
        have nDT : T3 ≠ D := fun z => by rw [z, sg _ _ u1] at nT3; cases nT3
        refine ⟨_, by rw [upd_ne nDT.symm]; exact sg _ _ u1, ?_, ?_, fun c o n e => by rw [upd_ne n, upd_ne (ne_of_none (sg _ _ (k3 c o n e)) nT3)]; exact sg _ _ (k3 c o n e)⟩
        · rw [List.length_map, u2, List.length_map, List.length_range]
          exact small1000 (by omega)
        · rw [List.range_succ, List.map_append]
          refine RfAt.push u1 u2 u3 (fun c o n e => by rw [upd_ne (ne_of_none (sg _ _ e) nT3)]; exact sg _ _ e) ?_ nDT
          rw [upd_same]
          show _ = some (HO.tup [.int (i : Int), .int (j : Int), .str (es.getD j "")])
          rw [getD_of hx]
      · rintro G ⟨gg, k3⟩
        rw [show (es.map V.str).length = es.length from List.length_map ..] at gg
        obtain ⟨us, u1, u2, u3⟩ := gg
        have nDL : D ≠ L := fun z => by rw [z, st _ _ t1] at nD; cases nD
        have four := hE.four
        have ul := trTo_len four i
        refine ⟨L, D, _, _, rfl, rfl, k3 _ _ nDL.symm (st _ _ t1), u1, ?_, ⟨_, _, rfl⟩, ?_, fun c o n e => ?_⟩
        · rw [List.length_map, List.length_map, t2, u2, List.length_map, List.length_range]
          exact Nat.le_of_lt (small1000 (by omega))
        · rw [trTo_step he]
          exact RfAt.app t1 t2 t3 (fun c o n e => k3 _ _ (ne_of_none (st _ _ e) nD) (st _ _ e)) u2 fun i t q a b => ⟨ne_of (u3 i t q a b) (k3 _ _ nDL.symm (st _ _ t1)) (by intro z; cases z), u3 i t q a b⟩
        · rw [upd_ne n]
          exact k3 _ _ (ne_of_none (k2 c o n e) nD) (k2 c o n e)
    · rintro σ H1 ⟨⟨v3, v4, rfl⟩, g1, k1⟩
      rw [List.length_map] at g1
      exact ⟨_, rfl, q L H1 nL g1 fun c o e => k1 c o (ne_of_none e nL) e⟩
end
end K1

set_option Elab.async false
set_option linter.all false
set_option maxRecDepth 100000
set_option maxHeartbeats 2000000
namespace K1
open PySem PySem.Spec PyProof.Rows L2
/-- a place as data -/
def plD (q : Pl) : PyData := .tuple [.int q.1, .int q.2]
theorem plD_lay (q : Pl) : (plD q).canLay0 = true := by simp [plD, PyData.canLay0, PyData.canLayAll0]
theorem plD_dep (q : Pl) : (plD q).depth = 1 := by simp [plD, PyData.depth, PyData.depthAll]
theorem plD_sh (q : Pl) : SeqAt.shaped (plD q) = true := by
  unfold SeqAt.shaped
  rw [plD_lay, plD_dep]
  rfl
theorem lays_of {α : Type} {f : α → PyData} (h : ∀ q, (f q).canLay0 = true) : ∀ qs : List α, PyData.canLayAll0 (qs.map f) = true
  | [] => by simp [PyData.canLayAll0]
  | q :: r => by simp [PyData.canLayAll0, h q, lays_of h r]
theorem deps_of {α : Type} {f : α → PyData} {n : Nat} (h : ∀ q, (f q).depth ≤ n) : ∀ qs : List α, PyData.depthAll (qs.map f) ≤ n + 1
  | [] => by simp [PyData.depthAll]
  | q :: r => by
    have h1 := h q
    have h2 := deps_of h r
    simp [PyData.depthAll]
    omega
theorem sh_list {α : Type} {f : α → PyData} {n : Nat} (h : ∀ q, (f q).canLay0 = true) (k : ∀ q, (f q).depth ≤ n) (hn : n ≤ 20) (qs : List α) : SeqAt.shaped (.list (qs.map f)) = true := by
  unfold SeqAt.shaped
  have h2 := deps_of k qs
  simp only [PyData.canLay0, lays_of h, PyData.depth, Bool.true_and]
  exact decide_eq_true (by omega)
theorem sh_tup {α : Type} {f : α → PyData} {n : Nat} (h : ∀ q, (f q).canLay0 = true) (k : ∀ q, (f q).depth ≤ n) (hn : n ≤ 20) (qs : List α) : SeqAt.shaped (.tuple (qs.map f)) = true := by
  unfold SeqAt.shaped
  have h2 := deps_of k qs
  simp only [PyData.canLay0, lays_of h, PyData.depth, Bool.true_and]
  exact decide_eq_true (by omega)
theorem plD_eqv (p q : Pl) : PyData.eqv (plD p) (plD q) = decide (p = q) := by
  show (PyData.eqvAll ([p.1, p.2].map PyData.int) ([q.1, q.2].map PyData.int)) = _
  rw [eqv_ints]
  by_cases h : p = q
  · rw [decide_eq_true h, decide_eq_true (by rw [h])]
  · rw [decide_eq_false h, decide_eq_false]
    intro z
    have h1 := (List.cons.inj z).1
    have h2 := (List.cons.inj (List.cons.inj z).2).1
    exact h (Prod.ext h1 h2)
theorem any_pl (qs : List Pl) (q : Pl) : ((qs.map plD).any fun z => PyData.eqv z (plD q)) = decide (q ∈ qs) := by
  rw [List.any_map]
  by_cases h : q ∈ qs
  · rw [decide_eq_true h, List.any_eq_true]
    exact ⟨q, h, by show PyData.eqv (plD q) (plD q) = true; rw [plD_eqv]; simp⟩
  · rw [decide_eq_false h]
    cases he : qs.any ((fun z => PyData.eqv z (plD q)) ∘ plD) with
    | false => rfl
    | true =>
      obtain ⟨p, hp, e⟩ := List.any_eq_true.mp he
      have e : PyData.eqv (plD p) (plD q) = true := e
      rw [plD_eqv] at e
      exact absurd (of_decide_eq_true e ▸ hp) h
theorem dpall_of {α : Type} {K : PySem.W.Frag} {H : Hp} {f : α → PyData} : ∀ {ts : List Addr} {qs : List α}, ts.length = qs.length → (∀ (i : Nat) t q, ts[i]? = some t → qs[i]? = some q → Dp K H (.ref t) (f q)) → DpAll K H (ts.map V.ref) (qs.map f)
  | [], [], _, _ => .nil
  | t :: ts, q :: qs, hl, h => .cons (h 0 t q rfl rfl) (dpall_of (by simpa using hl) fun i t q a b => h (i + 1) t q a b)
  | [], _ :: _, hl, _ => by simp at hl
  | _ :: _, [], hl, _ => by simp at hl
theorem dp_pl {K : PySem.W.Frag} {H : Hp} {t : Addr} {q : Pl} (h : H t = some (.tup ((pK q).map kV))) : Dp K H (.ref t) (plD q) := .tup (SqT.of h) (.cons (.int _) (.cons (.int _) .nil))
/-- a for over a list or a tuple -/
theorem for_two {K : PySem.W.Frag} {i : Nat} {a : Addr} {xs : List V} {g : TG} {tb : TS} {D : L2.Ends} {σ : L2.St} {H : Hp} (hσ : σ[i]? = some (some (.ref a))) (hL : Sq2 H a xs) (Pv : Nat → L2.St → Hp → Prop) (h0 : Pv 0 σ H) (hk : ∀ i σ H' o, Pv i σ H' → H a = some o → H' a = some o)
    (hs : ∀ i x σ H, xs[i]? = some x → Pv i σ H → g x σ H fun σ2 H2 => tb { D with nx := Pv (i + 1), ct := Pv (i + 1), bk := D.nx } σ2 H2) (hd : ∀ σ H, Pv xs.length σ H → D.nx σ H) :
    (iList K (tVar i) σ H fun J H1 => ∃ W : Nat → Nat → L2.St → Hp → Prop, (∃ m, W 0 m σ H1) ∧ ∀ i m σ H, W i m σ H →
      (J.stop i H ∧ D.nx σ H) ∨ (J.go i H ∧ ∃ N : L2.St → Hp → Prop, (∀ σ' H', N σ' H' → ∃ m', m' < m ∧ W (i + 1) m' σ' H') ∧ ∀ x H', J.yld i H x H' → g x σ H' fun σ2 H2 => tb { D with nx := N, ct := N, bk := D.nx } σ2 H2)) ∨
    (iTup K (tVar i) σ H fun J H1 => ∃ W : Nat → Nat → L2.St → Hp → Prop, (∃ m, W 0 m σ H1) ∧ ∀ i m σ H, W i m σ H →
      (J.stop i H ∧ D.nx σ H) ∨ (J.go i H ∧ ∃ N : L2.St → Hp → Prop, (∀ σ' H', N σ' H' → ∃ m', m' < m ∧ W (i + 1) m' σ' H') ∧ ∀ x H', J.yld i H x H' → g x σ H' fun σ2 H2 => tb { D with nx := N, ct := N, bk := D.nx } σ2 H2)) := by
  rcases hL with hL | hL
  · exact .inl ⟨_, hσ, a, rfl, ⟨_, SqL.of hL⟩, for_list Pv h0 (fun j σ H' _ p => SqL.of (hk j σ H' _ p hL)) hs hd⟩
  · exact .inr ⟨_, hσ, a, rfl, ⟨_, SqT.of hL⟩, for_tup Pv h0 (fun j σ H' _ p => SqT.of (hk j σ H' _ p hL)) hs hd⟩
/-- the place of an end -/
def trP (q : Tr) : Pl := ((q.1 : Int), (q.2.1 : Int))
section
variable {P : Program} {w : World} {K : PySem.W.Frag} {mg : Str → Option Value} {base : Heap}
def spLFree : Sp := fun vs H Q _ => ∃ (T A B Bk Lk : Addr) (ps : List (Str × Str)) (bs : List (Str × Addr)) (nms : List Str) (ess : List (List Str)) (xs : List V) (ls : List (Pl × Pl)), vs = [.ref T, .ref Bk, .ref Lk] ∧ H T = some (.lst [.ref A, .ref B]) ∧ H B = some (.dK (bk bs)) ∧ Sq2 H Bk (nms.map V.str) ∧ EssV H ps bs nms ess ∧ nms.length ≤ 200 ∧
  Sq2 H Lk xs ∧ xs.length = ls.length ∧ ls.length ≤ 200 ∧ (∀ (i : Nat) x p, xs[i]? = some x → ls[i]? = some p → ∃ o1 o2, LkF H x o1 o2 p) ∧
  ∀ (R : Addr) (H' : Hp), H R = none → RfAt trV H' R ((trTo ess nms.length).filter fun q => !decide (trP q ∈ plsOf ls)) → Same H H' → Q (.ref R) H'
theorem ok_lfree {f fE : Addr} {fd dE : FuncData} (F : Fun K "_law_free" "_law_free" sLFree f fd) (en : Df P w K mg base CX0 1 "_law_ends" sLEnds ["sheet", "blocks"] spLEnds fE dE) : FnOk P w K mg base CX0 2 f fd ["sheet", "blocks", "links"] spLFree := by
  refine F.ok scLFree (fun vs H Q E h => ?_) (fun cdv A outer s H vs Q E hr h => ?_)
  · obtain ⟨T, D, B, Bk, Lk, ps, bs, nms, ess, xs, ls, rfl, _⟩ := h
    rfl
  · obtain ⟨T, D, B, Bk, Lk, ps, bs, nms, ess, xs, ls, rfl, hT, hB, hBk, hE, n2, hLk, hxl, l2, hlk, q⟩ := h
    have hu := hu_of hr
    have h65 : (A.deeper (envOfC "_law_free" (defScope sLFree) s.heap.objs.size f cdv)).units + 65 < cLine := by have := h64_of hr; have := hr.un; omega
    refine ⟨_, pss_cons (ps_set (i := 3) scLFree.nd rfl (.inr rfl) (pe_lst pa_nil))
      (pss_cons (ps_for PassesOwn.never rfl (pi_two (pi_list (pv 2)) (pi_tup (pv 2))) (pg_tup rfl (pgs_cons (pg_name (i := 4) scLFree.nd rfl (.inl rfl)) (pgs_cons (pg_name (i := 5) scLFree.nd rfl (.inl rfl)) pgs_nil)))
        (pss_one (ps_expr (pe_bm PySem.F.plainAttrs_list PySem.F.slot_list_extend PySem.F.type_list_extend mt_extend (pv 3) (pa_cons (pe_lst (pa_cons (pv 4) (pa_cons (pv 5) pa_nil))) pa_nil)))))
      (pss_one (ps_ret (pe_lc (own := [("end", 6)]) (g := gName 6) rfl scLFree.nd (pi_list (pe_call en.G hr (by rfl) en.d.m en.d.F.kp en.d.b .nil pass0 (pa_cons (pv 0) (pa_cons (pv 1) pa_nil))))
          (blkOk_by (own := [("end", 6)]) (N := ["sheet", "blocks", "links", "used", "one", "two", "end"]) (sc := defScope sLFree) (by decide +kernel)) (fun _ _ _ _ _ => pg_name (i := 6) scLFree.nd rfl (.inl rfl))
          (fun _ _ _ _ _ => pts_one (pt_cmpR (show OpR _ _ (rNotInD K) from op_notInD h65) (pe_tup (pa_cons (pe_ix (show IxR _ (rIxT K) from ix_tup) (pv 6) pe_int (fun _ _ => rfl)) (pa_cons (pe_ix (show IxR _ (rIxT K) from ix_tup) (pv 6) pe_int (fun _ _ => rfl)) pa_nil))) (pv 3) (by rfl)))
          (fun _ _ _ _ _ => pv 6))))), ?_⟩
    refine ⟨Nat.zero_le _, fun U nU => ?_⟩
    have s0 : Same H (upd H U (.lst [])) := same_upd nU
    refine for_two (K := K) (i := 2) (a := Lk) rfl (hLk.same s0) (fun i σ H' => (∃ v4 v5, σ = [some (.ref T), some (.ref Bk), some (.ref Lk), some (.ref U), v4, v5, none]) ∧ PlsAt H' U (plsOf (ls.take i)) ∧ ∀ c o, c ≠ U → H c = some o → H' c = some o) ⟨⟨none, none, rfl⟩, PlsAt.nil, fun c o n e => s0 _ _ e⟩
      (fun i σ H' o p e => ?_) ?_ ?_
    · have nLU := hLk.ne nU
      rw [upd_ne nLU] at e
      exact p.2.2 _ _ nLU e
    · rintro i x σ H1 hx ⟨⟨v4, v5, rfl⟩, ⟨ts, t1, t2, t3⟩, k1⟩
      have hi : i < xs.length := (List.getElem?_eq_some_iff.mp hx).1
      obtain ⟨p, hp⟩ : ∃ p, ls[i]? = some p := ⟨_, List.getElem?_eq_getElem (by omega)⟩
      obtain ⟨o1, o2, z⟩ := hlk i x p hx hp
      obtain ⟨t, rfl, z1, z2, z3⟩ := z
      have kk : ∀ {c o}, H c = some o → H1 c = some o := fun e => k1 _ _ (ne_of_none e nU) e
      refine ⟨t, _, rfl, SqT.of (kk z1), rfl, _, _, rfl, _, _, rfl, rfl, ?_⟩
      refine ⟨_, rfl, .inl ⟨rfl, _, SqL.of t1⟩, _, rfl, _, rfl, Nat.le_of_lt (small1000 (n := 2) (by decide)), fun M nM => ?_⟩
      have nMU : M ≠ U := fun z => by rw [z, t1] at nM; cases nM
      refine ⟨U, M, _, [.ref o1, .ref o2], rfl, rfl, by rw [upd_ne nMU.symm]; exact t1, upd_same, ?_, ⟨_, _, rfl⟩, ?_, fun c o n e => ?_⟩
      · rw [List.length_map, t2, plsOf_len, List.length_take]
        exact Nat.le_of_lt (small1000 (by show _ + 2 ≤ 1000; omega))
      · rw [List.take_add_one, hp]
        show PlsAt _ U (plsOf (ls.take i ++ [p]))
        rw [plsOf_app, List.append_assoc]
        refine RfAt.app (f := fun q => (pK q).map kV) (us := [o1, o2]) (rs := [p.1] ++ [p.2]) t1 t2 t3 (fun c o n e => by rw [upd_ne (ne_of_none e nM)]; exact e) rfl fun j u r a b => ?_
        match j, a, b with
        | 0, a, b => cases a; cases b; exact ⟨ne_of_none z2 nU, by rw [upd_ne (ne_of_none (kk z2) nM)]; exact kk z2⟩
        | 1, a, b => cases a; cases b; exact ⟨ne_of_none z3 nU, by rw [upd_ne (ne_of_none (kk z3) nM)]; exact kk z3⟩
      · rw [upd_ne n, upd_ne (ne_of_none (k1 c o n e) nM)]
        exact k1 c o n e
    rintro σ H1 ⟨⟨v4, v5, rfl⟩, g1, k1⟩
    rw [hxl, List.take_length] at g1
    have s1 : Same H H1 := fun c o e => k1 c o (ne_of_none e nU) e
    refine ⟨_, rfl, _, rfl, T, D, B, Bk, ps, bs, nms, ess, rfl, s1 _ _ hT, s1 _ _ hB, hBk.same s1, hE.same (same_tupK s1), n2, fun L H2 nL gL s2 => ?_⟩
    have g2 := g1.kept s2
    obtain ⟨ts, t1, t2, t3⟩ := gL
    obtain ⟨us, u1, u2, u3⟩ := g2
    have s12 := s1.trans s2
    refine ⟨L, rfl, ⟨_, SqL.of t1⟩, fun R nR => ?_⟩
    have ul := trTo_len hE.four nms.length
    refine lc_list (K := K) (a := L) (xs := ts.map V.ref) (fun i G => RfAt trV G R (((trTo ess nms.length).take i).filter fun q => !decide (trP q ∈ plsOf ls)) ∧ ∀ c o, c ≠ R → H2 c = some o → G c = some o) ⟨RfAt.nil, fun c o n e => by rw [upd_ne n]; exact e⟩ (fun i G _ p => SqL.of (p.2 _ _ (ne_of_none t1 nR) t1)) ?_ ?_
    · rintro i z G hz ⟨⟨rs, r1, r2, r3⟩, k3⟩
      rw [List.getElem?_map] at hz
      cases ht : ts[i]? with
      | none => rw [ht] at hz; cases hz
      | some t =>
      rw [ht] at hz
      cases hz
      have hi : i < ts.length := (List.getElem?_eq_some_iff.mp ht).1
      obtain ⟨q0, hq0⟩ : ∃ q0, (trTo ess nms.length)[i]? = some q0 := ⟨_, List.getElem?_eq_getElem (by omega)⟩
      have hT0 := t3 i t q0 ht hq0
      have hTG := k3 _ _ (ne_of_none hT0 nR) hT0
      have tk : (trTo ess nms.length).take (i + 1) = (trTo ess nms.length).take i ++ [q0] := by rw [List.take_add_one, hq0]; rfl
      refine ⟨rfl, _, rfl, t, _, 0, .int (q0.1 : Int), rfl, rfl, SqT.of hTG, at_of (j := 0) rfl rfl, _, rfl, t, _, 1, .int (q0.2.1 : Int), rfl, rfl, SqT.of hTG, at_of (j := 1) rfl rfl, Nat.le_of_lt (small1000 (n := 2) (by decide)), fun M nM => ?_⟩
      have sM : Same G (upd G M (.tup [.int (q0.1 : Int), .int (q0.2.1 : Int)])) := same_upd nM
      have eM : (upd G M (.tup [.int (q0.1 : Int), .int (q0.2.1 : Int)])) M = some (.tup ((pK (trP q0)).map kV)) := upd_same
      generalize (upd G M (.tup [.int (q0.1 : Int), .int (q0.2.1 : Int)])) = G1 at sM eM ⊢
      have kG : ∀ {c o}, H2 c = some o → G1 c = some o := fun e => sM _ _ (k3 _ _ (ne_of_none e nR) e)
      refine ⟨_, rfl, plD (trP q0), (plsOf ls).map plD, dp_pl eM, .lst (SqL.of (kG u1)) (dpall_of u2 fun j u r a b => dp_pl (kG (u3 j u r a b))), plD_sh _, sh_list plD_lay (fun q => Nat.le_of_eq (plD_dep q)) (by decide) _, _, rfl, ?_⟩
      rw [any_pl]
      by_cases hm : trP q0 ∈ plsOf ls
      · rw [decide_eq_true hm]
        show if (!true) = true then _ else _
        rw [if_neg (by decide)]
        refine ⟨?_, fun c o n e => sM _ _ (k3 c o n e)⟩
        rw [tk, List.filter_append]
        have : ([q0].filter fun q => !decide (trP q ∈ plsOf ls)) = [] := by simp [hm]
        rw [this, List.append_nil]
        exact RfAt.kept ⟨rs, r1, r2, r3⟩ sM
      · rw [decide_eq_false hm]
        show if (!false) = true then _ else _
        rw [if_pos (by decide)]
        refine ⟨_, rfl, _, sM _ _ r1, ?_, ?_, fun c o n e => by rw [upd_ne n]; exact sM _ _ (k3 c o n e)⟩
        · rw [List.length_map, r2]
          have h1 := List.length_filter_le (fun q => !decide (trP q ∈ plsOf ls)) ((trTo ess nms.length).take i)
          have h2 := List.length_take_le i (trTo ess nms.length)
          exact small1000 (by omega)
        · rw [tk, List.filter_append]
          have : ([q0].filter fun q => !decide (trP q ∈ plsOf ls)) = [q0] := by simp [hm]
          rw [this]
          exact RfAt.push r1 r2 r3 (fun c o n e => sM _ _ e) (sM _ _ hTG) (ne_of_none hT0 nR)
    · rintro G ⟨g1, k3⟩
      rw [List.length_map, t2, List.take_length] at g1
      refine q R G ?_ g1 (s12.trans fun c o e => k3 c o (ne_of_none e nR) e)
      cases e : H R with
      | none => rfl
      | some o => rw [s12 _ _ e] at nR; cases nR
end
end K1

set_option Elab.async false
set_option linter.all false
set_option maxRecDepth 100000
set_option maxHeartbeats 2000000
namespace K1
open PySem PySem.Spec PyProof.Rows L2
abbrev sLHung : Stmt := topS 52
theorem scLHung : FnScope ["sheet", "kind", "found", "name", "end", "other"] ["sheet", "kind"] (defScope sLHung) := ⟨rfl, rfl, rfl, by decide +kernel, rfl, by decide +kernel, by decide +kernel⟩
/-- a block and an end by which it can hang -/
def Hung (ps : List (Str × Str)) (bs : List (Str × Addr)) (y : Str) (H : Hp) (t : Addr) : Prop := ∃ (m : Str) (a : Addr) (es : List Str) (j : Nat), H t = some (.tup [.str m, .int (j : Int)]) ∧ K1.look bs m = some a ∧ Ends H ps a es ∧ es[j]? = some y
theorem Hung.same {ps : List (Str × Str)} {bs : List (Str × Addr)} {y : Str} {H H' : Hp} {t : Addr} (h : Hung ps bs y H t) (e : TupK H H') : Hung ps bs y H' t := by
  obtain ⟨m, a, es, j, h1, h2, h3, h4⟩ := h
  exact ⟨m, a, es, j, e _ _ h1, h2, h3.same e, h4⟩
/-- a list of such -/
def HungAt (ps : List (Str × Str)) (bs : List (Str × Addr)) (y : Str) (n : Nat) (H : Hp) (L : Addr) : Prop := ∃ ts : List Addr, H L = some (.lst (ts.map V.ref)) ∧ ts.length ≤ n ∧ ∀ t ∈ ts, Hung ps bs y H t
theorem HungAt.same {ps : List (Str × Str)} {bs : List (Str × Addr)} {y : Str} {n : Nat} {H H' : Hp} {L : Addr} (h : HungAt ps bs y n H L) (e : Same H H') : HungAt ps bs y n H' L := by
  obtain ⟨ts, h1, h2, h3⟩ := h
  exact ⟨ts, e _ _ h1, h2, fun t ht => (h3 t ht).same (same_tupK e)⟩
theorem upd_tupK {H : Hp} {L : Addr} {xs ys : List V} (h : H L = some (.lst xs)) : TupK H (upd H L (.lst ys)) := fun b zs e => by rw [upd_ne (ne_of e h (by intro z; cases z))]; exact e
section
variable {P : Program} {w : World} {K : PySem.W.Frag} {mg : Str → Option Value} {base : Heap}
def spLHung : Sp := fun vs H Q _ => ∃ (T A B : Addr) (ps : List (Str × Str)) (bs : List (Str × Addr)) (z y : Str), vs = [.ref T, .str z] ∧ H T = some (.lst [.ref A, .ref B]) ∧ H A = some (.dK (pk ps)) ∧ H B = some (.dK (bk bs)) ∧ K1.look ps z = some y ∧ BlkOk H ps bs ∧ bs.length ≤ 8 ∧
  ∀ (L : Addr) (H' : Hp), H L = none → HungAt ps bs y 32 H' L → Same H H' → Q (.ref L) H'
theorem ok_lhung {f : Addr} {fd : FuncData} (F : Fun K "_law_hung" "_law_hung" sLHung f fd) (Bt : Bi mg) (men : mg "enumerate" = none) : FnOk P w K mg base CX0 1 f fd ["sheet", "kind"] spLHung := by
  refine F.ok scLHung (fun vs H Q E h => ?_) (fun cdv A outer s H vs Q E hr h => ?_)
  · obtain ⟨T, D, B, ps, bs, z, y, rfl, _⟩ := h
    rfl
  · obtain ⟨T, D, B, ps, bs, z, y, rfl, hT, hA, hB, hz, hO, b8, q⟩ := h
    have hu := hu_of hr
    refine ⟨_, pss_cons (ps_set (i := 2) scLHung.nd rfl (.inl rfl) (pe_lst pa_nil))
      (pss_cons (ps_for PassesOwn.never rfl (pi_list (pe_callB (call_sortedD rfl) (by rfl) Bt.sorted boot_sorted (pa_cons (pe_ix ix_list (pv 0) pe_int (fun _ _ => rfl)) pa_nil))) (pg_name (i := 3) scLHung.nd rfl (.inr rfl))
        (pss_one (ps_expr (pe_bm PySem.F.plainAttrs_list PySem.F.slot_list_extend PySem.F.type_list_extend mt_extend (pv 2) (pa_cons
          (pe_lc (own := [("end", 4), ("other", 5)]) (g := gTup K 2 (gCons (gName 4) (gCons (gName 5) gNil))) rfl scLHung.nd (pi_enum2 rfl men (pe_dget hu (pe_ix ix_list (pv 0) pe_int (fun _ _ => rfl)) (pv 3) (fun _ _ => rfl)))
            (blkOk_by (own := [("end", 4), ("other", 5)]) (N := ["sheet", "kind", "found", "name", "end", "other"]) (sc := defScope sLHung) (by decide +kernel))
            (fun _ _ _ _ _ => pg_tup rfl (pgs_cons (pg_name (i := 4) scLHung.nd rfl (.inl rfl)) (pgs_cons (pg_name (i := 5) scLHung.nd rfl (.inl rfl)) pgs_nil)))
            (fun _ _ _ _ _ => pts_one (pt_cmpR op_eq (pe_dget hu (pe_ix (show IxR _ (rIxL K) from ix_list) (pv 0) pe_int (fun _ _ => rfl)) (pv 1) (fun _ _ => rfl)) (pv 5) (nomark _)))
            (fun _ _ _ _ _ => pe_tup (pa_cons (pv 3) (pa_cons (pv 4) pa_nil)))) pa_nil)))))
      (pss_one (ps_ret (pv 2)))), ?_⟩
    refine ⟨Nat.zero_le _, fun L nL => ?_⟩
    have s0 : Same H (upd H L (.lst [])) := same_upd nL
    have h0 : HungAt ps bs y 0 (upd H L (.lst [])) L := ⟨[], upd_same, Nat.le_refl _, fun t ht => nomatch ht⟩
    generalize (upd H L (.lst [])) = H1 at s0 h0 ⊢
    have hkeys : (bk bs).map (·.1) = (bs.map (·.1)).map Sum.inr := by
      unfold bk
      rw [List.map_map, List.map_map]
      rfl
    refine ⟨_, rfl, T, _, 1, _, rfl, rfl, SqL.of (s0 _ _ hT), at_of (j := 1) rfl rfl, B, bk bs, bs.map (·.1), rfl, .inl (s0 _ _ hB), hkeys, by rw [List.length_map]; omega, fun ys sp perm srt nsp => ⟨sp, rfl, ⟨_, SqL.of upd_same⟩, ?_⟩⟩
    have s1 : Same H1 (upd H1 sp (.lst (ys.map V.str))) := same_upd nsp
    have e1 : (upd H1 sp (.lst (ys.map V.str))) sp = some (.lst (ys.map V.str)) := upd_same
    have h1 := h0.same s1
    generalize (upd H1 sp (.lst (ys.map V.str))) = H2 at s1 e1 h1 ⊢
    have s01 := s0.trans s1
    have nLs : sp ≠ L := fun e => by
      obtain ⟨ts, t1, _⟩ := h0
      rw [e, t1] at nsp; cases nsp
    have yl : ys.length ≤ 8 := by have := perm.length_eq; rw [List.length_map] at this; omega
    refine for_list (K := K) (a := sp) (xs := ys.map V.str) (fun i σ H' => (∃ v3, σ = [some (.ref T), some (.str z), some (.ref L), v3, none, none]) ∧ HungAt ps bs y (4 * i) H' L ∧ ∀ c o, c ≠ L → H2 c = some o → H' c = some o) ⟨⟨none, rfl⟩, h1, fun c o _ e => e⟩ (fun i σ H' _ p => SqL.of (p.2.2 _ _ nLs e1)) ?_ ?_
    · rintro i x σ H3 hx ⟨⟨v3, rfl⟩, ⟨ts, t1, t2, t3⟩, k1⟩
      rw [List.getElem?_map] at hx
      cases hm : ys[i]? with
      | none => rw [hm] at hx; cases hx
      | some m =>
      rw [hm] at hx
      cases hx
      have hi : i < ys.length := (List.getElem?_eq_some_iff.mp hm).1
      have kk : ∀ {c o}, H c = some o → H3 c = some o := fun e => k1 _ _ (ne_of_none e nL) (s01 _ _ e)
      have hmb : m ∈ bs.map (·.1) := perm.mem_iff.mp (List.mem_of_getElem? hm)
      obtain ⟨r, hr2, rfl⟩ := List.mem_map.mp hmb
      have hbt : K1.look bs r.1 = some r.2 := look_some hO.nd hr2
      obtain ⟨es, het, e1', e4, hek⟩ := hO.tup r hr2
      refine ⟨_, rfl, .inl ⟨rfl, _, SqL.of t1⟩, ?_⟩
      refine ⟨_, rfl, T, _, 1, _, rfl, rfl, SqL.of (kk hT), at_of (j := 1) rfl rfl, _, rfl, B, .ref r.2, rfl, ?_, r.2, es.map V.str, .tup (es.map V.str), rfl, .inr rfl, kk het, fun J2 hJ2 M nM => ?_⟩
      · have := DGet.k (k := Sum.inr r.1) (kk hB)
        rw [bk_val, hbt] at this
        exact this
      have nML : M ≠ L := fun z => by rw [z, t1] at nM; cases nM
      refine lc_enum hJ2 (fun j G => HungAt ps bs y j G M ∧ ∀ c o, c ≠ M → H3 c = some o → G c = some o) ⟨⟨[], upd_same, Nat.le_refl _, fun t ht => nomatch ht⟩, fun c o n e => by rw [upd_ne n]; exact e⟩ (fun j G p => p.2 _ _ (ne_of_none (kk het) nM) (kk het)) ?_ ?_
      · rintro j x T1 G hx ⟨⟨us, u1, u2, u3⟩, k3⟩ nT1
        rw [List.getElem?_map] at hx
        cases hz2 : es[j]? with
        | none => rw [hz2] at hx; cases hx
        | some x2 =>
        rw [hz2] at hx
        cases hx
        have hj : j < es.length := (List.getElem?_eq_some_iff.mp hz2).1
        have sg : Same G (upd G T1 (.tup [.int (j : Nat), .str x2])) := same_upd nT1
        have eT1 : (upd G T1 (.tup [.int (j : Nat), .str x2])) T1 = some (.tup [.int (j : Nat), .str x2]) := upd_same
        generalize (upd G T1 (.tup [.int (j : Nat), .str x2])) = G1 at sg eT1 ⊢
        have kG : ∀ {c o}, H c = some o → G1 c = some o := fun e => sg _ _ (k3 _ _ (ne_of_none (kk e) nM) (kk e))
        refine ⟨T1, _, rfl, SqT.of eT1, rfl, _, _, rfl, _, _, rfl, rfl, rfl, ?_⟩
        refine ⟨_, rfl, T, _, 0, _, rfl, rfl, SqL.of (kG hT), at_of (j := 0) rfl rfl, _, rfl, D, .str y, rfl, ?_, _, rfl, rfl, _, rfl, ?_⟩
        · have := DGet.k (k := Sum.inr z) (kG hA)
          rw [← sk_pl, sk_val, look_pl, hz] at this
          exact this
        by_cases hyx : y = x2
        · rw [show decide (V.str y = V.str x2) = true by rw [hyx]; simp]
          show if true = true then _ else _
          rw [if_pos rfl]
          refine ⟨_, rfl, _, rfl, Nat.le_of_lt (small1000 (n := 2) (by decide)), fun T3 nT3 => ?_⟩
          have nMT : T3 ≠ M := fun z => by rw [z, sg _ _ u1] at nT3; cases nT3
          have s3 : Same G1 (upd G1 T3 (.tup [.str r.1, .int (j : Nat)])) := same_upd nT3
          have eT3 : (upd G1 T3 (.tup [.str r.1, .int (j : Nat)])) T3 = some (.tup [.str r.1, .int (j : Nat)]) := upd_same
          generalize (upd G1 T3 (.tup [.str r.1, .int (j : Nat)])) = G2 at s3 eT3 ⊢
          have u1' := s3 _ _ (sg _ _ u1)
          refine ⟨_, u1', by rw [List.length_map]; exact small1000 (by omega), ⟨us ++ [T3], by rw [upd_same, List.map_append]; rfl, by rw [List.length_append, List.length_singleton]; omega, fun t ht => ?_⟩, fun c o n e => by rw [upd_ne n]; exact s3 _ _ (sg _ _ (k3 c o n e))⟩
          have tk := upd_tupK (ys := us.map V.ref ++ [.ref T3]) u1'
          rcases List.mem_append.mp ht with ht | ht
          · exact (u3 t ht).same fun b zs e => tk _ _ (s3 _ _ (sg _ _ e))
          · have : t = T3 := by simpa using ht
            subst this
            exact ⟨r.1, r.2, es, j, tk _ _ eT3, hbt, ⟨tk _ _ (s3 _ _ (kG het)), e1', e4, hek⟩, by rw [hz2, hyx]⟩
        · rw [decide_eq_false (show ¬ V.str y = V.str x2 from fun z => hyx (V.str.inj z))]
          show if false = true then _ else _
          rw [if_neg Bool.false_ne_true]
          exact ⟨⟨us, sg _ _ u1, by omega, fun t ht => (u3 t ht).same (same_tupK sg)⟩, fun c o n e => sg _ _ (k3 c o n e)⟩
      · rintro G ⟨⟨us, u1, u2, u3⟩, k3⟩
        rw [List.length_map] at u2
        have gL := k3 _ _ nML.symm t1
        refine ⟨L, M, _, _, rfl, rfl, gL, u1, by rw [List.length_map, List.length_map]; exact Nat.le_of_lt (small1000 (by omega)), ⟨_, rfl⟩, ⟨ts ++ us, by rw [upd_same, List.map_append], by rw [List.length_append]; omega, fun t ht => ?_⟩, fun c o n e => by rw [upd_ne n]; exact k3 _ _ (ne_of_none (k1 c o n e) nM) (k1 c o n e)⟩
        have tk := upd_tupK (ys := ts.map V.ref ++ us.map V.ref) gL
        rcases List.mem_append.mp ht with ht | ht
        · exact (t3 t ht).same fun b zs e => tk _ _ (k3 _ _ (ne_of_none e nM) e)
        · exact (u3 t ht).same tk
    · rintro σ H3 ⟨⟨v3, rfl⟩, ⟨ts, t1, t2, t3⟩, k1⟩
      rw [List.length_map] at t2
      exact ⟨_, rfl, q L H3 nL ⟨ts, t1, by omega, t3⟩ fun c o e => k1 c o (ne_of_none e nL) (s01 _ _ e)⟩
end
end K1

set_option Elab.async false
set_option linter.all false
set_option maxRecDepth 100000
set_option maxHeartbeats 2000000
namespace K1
open PySem PySem.Spec PyProof.Rows L2
theorem lex2 (a b c d : Int) : HT.lexLt [a, b] [c, d] = decide (a < c ∨ (a = c ∧ b < d)) := by
  rw [HT.lexLt_cons, HT.lexLt_cons]
  by_cases h1 : a = c
  · rw [if_pos h1]
    by_cases h2 : b = d
    · rw [if_pos h2]
      symm
      rw [show HT.lexLt [] [] = false from rfl]
      exact decide_eq_false (by omega)
    · rw [if_neg h2]
      by_cases h3 : b < d
      · rw [decide_eq_true h3, decide_eq_true (.inr ⟨h1, h3⟩)]
      · rw [decide_eq_false h3, decide_eq_false (by omega)]
  · rw [if_neg h1]
    by_cases h3 : a < c
    · rw [decide_eq_true h3, decide_eq_true (.inl h3)]
    · rw [decide_eq_false h3, decide_eq_false (by omega)]
theorem lex2_tot {a b c d : Int} (h : (a, b) ≠ (c, d)) (n : HT.lexLt [a, b] [c, d] = false) : HT.lexLt [c, d] [a, b] = true := by
  rw [lex2] at n ⊢
  have n := of_decide_eq_false n
  refine decide_eq_true ?_
  by_cases h1 : a = c
  · by_cases h2 : b = d
    · exact absurd (by rw [h1, h2]) h
    · omega
  · omega
/-- copies that are reached from the first one -/
inductive Rc (ls : List (Pl × Pl)) : Nat → Prop
  | zero : Rc ls 0
  | step {u v : Nat} {p : Pl × Pl} (h : Rc ls u) (hp : p ∈ ls) (e : (p.1.1 = (u : Int) ∧ p.2.1 = (v : Int)) ∨ (p.1.1 = (v : Int) ∧ p.2.1 = (u : Int))) : Rc ls v
theorem Rc.mono {ls ms : List (Pl × Pl)} (h : ∀ p ∈ ls, p ∈ ms) {v : Nat} (r : Rc ls v) : Rc ms v := by
  induction r with
  | zero => exact .zero
  | step _ hp e ih => exact .step ih (h _ hp) e
/-- a link that fits -/
def LinkOk (ps : List (Str × Str)) (ess : List (List Str)) (p : Pl × Pl) : Prop := ∃ (i1 j1 i2 j2 : Nat) (e1 e2 : List Str) (x1 x2 : Str), p = (((i1 : Int), (j1 : Int)), ((i2 : Int), (j2 : Int))) ∧ ess[i1]? = some e1 ∧ ess[i2]? = some e2 ∧ e1[j1]? = some x1 ∧ e2[j2]? = some x2 ∧ K1.look ps x1 = some x2 ∧
  HT.lexLt [(i1 : Int), (j1 : Int)] [(i2 : Int), (j2 : Int)] = true
theorem LinkOk.app {ps : List (Str × Str)} {ess : List (List Str)} {p : Pl × Pl} (h : LinkOk ps ess p) (es : List Str) : LinkOk ps (ess ++ [es]) p := by
  obtain ⟨i1, j1, i2, j2, e1, e2, x1, x2, rfl, h1, h2, r⟩ := h
  refine ⟨i1, j1, i2, j2, e1, e2, x1, x2, rfl, ?_, ?_, r⟩
  · rw [List.getElem?_append_left (List.getElem?_eq_some_iff.mp h1).1]; exact h1
  · rw [List.getElem?_append_left (List.getElem?_eq_some_iff.mp h2).1]; exact h2
theorem PartOk.back {ps : List (Str × Str)} (h : PartOk ps) {x y : Str} (e : K1.look ps x = some y) : K1.look ps y = some x := look_some (p := (y, x)) h.nd (h.sym _ (look_mem e))
/-- a link of two ends, the lesser one first -/
def mkL (a b c d : Int) : Pl × Pl := if HT.lexLt [a, b] [c, d] = true then ((a, b), (c, d)) else ((c, d), (a, b))
theorem mkL_ok {ps : List (Str × Str)} (hP : PartOk ps) {ess : List (List Str)} {i1 j1 i2 j2 : Nat} {e1 e2 : List Str} {x1 x2 : Str} (h1 : ess[i1]? = some e1) (h2 : ess[i2]? = some e2) (k1 : e1[j1]? = some x1) (k2 : e2[j2]? = some x2) (hx : K1.look ps x1 = some x2)
    (hne : ((i1 : Int), (j1 : Int)) ≠ ((i2 : Int), (j2 : Int))) : LinkOk ps ess (mkL i1 j1 i2 j2) := by
  unfold mkL
  cases hl : HT.lexLt [(i1 : Int), (j1 : Int)] [(i2 : Int), (j2 : Int)] with
  | true => rw [if_pos rfl]; exact ⟨i1, j1, i2, j2, e1, e2, x1, x2, rfl, h1, h2, k1, k2, hx, hl⟩
  | false => rw [if_neg Bool.false_ne_true]; exact ⟨i2, j2, i1, j1, e2, e1, x2, x1, rfl, h2, h1, k2, k1, hP.back hx, lex2_tot hne hl⟩
theorem mkL_pls (ls : List (Pl × Pl)) (a b c d : Int) : (plsOf (ls ++ [mkL a b c d])).Perm (plsOf ls ++ [(a, b), (c, d)]) := by
  rw [plsOf_app, List.append_assoc]
  unfold mkL
  split
  · exact List.Perm.refl _
  · exact List.Perm.append_left _ (List.Perm.swap _ _ _)
theorem mkL_mem {a b c d : Int} : ((mkL a b c d).1.1 = a ∧ (mkL a b c d).2.1 = c) ∨ ((mkL a b c d).1.1 = c ∧ (mkL a b c d).2.1 = a) := by
  unfold mkL
  split
  · exact .inl ⟨rfl, rfl⟩
  · exact .inr ⟨rfl, rfl⟩
/-- a piece that is being drawn -/
structure Gr (ps : List (Str × Str)) (ess : List (List Str)) (ls : List (Pl × Pl)) : Prop where
  ok : ∀ p ∈ ls, LinkOk ps ess p
  nd : (plsOf ls).Nodup
  cn : ∀ v < ess.length, Rc ls v
theorem Gr.start {ps : List (Str × Str)} (es : List Str) : Gr ps [es] [] := ⟨(fun p hp => nomatch hp), List.nodup_nil, fun v hv => by
  have : v = 0 := by simpa using hv
  subst this
  exact .zero⟩
theorem nd_add {α : Type} {l : List α} {a b : α} (h : l.Nodup) (ha : a ∉ l) (hb : b ∉ l) (ab : a ≠ b) : (l ++ [a, b]).Nodup :=
  List.nodup_append.mpr ⟨h, by simp [ab], fun x hx y hy e => by
    rcases (show y = a ∨ y = b by simpa using hy) with z | z
    · rw [e, z] at hx; exact ha hx
    · rw [e, z] at hx; exact hb hx⟩
theorem mem_trTo {ess : List (List Str)} {n : Nat} {q : Tr} (hn : n ≤ ess.length) (h : q ∈ trTo ess n) : q.1 < n ∧ ∃ es, ess[q.1]? = some es ∧ es[q.2.1]? = some q.2.2 := by
  unfold trTo at h
  obtain ⟨c, hc, hq⟩ := List.mem_flatMap.mp h
  have hc := List.mem_range.mp hc
  unfold trOf at hq
  obtain ⟨e, he, rfl⟩ := List.mem_map.mp hq
  have he := List.mem_range.mp he
  have hg : ess[c]? = some (ess.getD c []) := by
    rw [List.getD_eq_getElem?_getD, List.getElem?_eq_getElem (show c < ess.length by omega)]
    rfl
  refine ⟨hc, _, hg, ?_⟩
  show (ess.getD c [])[e]? = some ((ess.getD c []).getD e "")
  rw [List.getD_eq_getElem?_getD (l := ess.getD c []), List.getElem?_eq_getElem he]
  rfl
theorem tr_same {ess : List (List Str)} {n : Nat} {q r : Tr} (hn : n ≤ ess.length) (hq : q ∈ trTo ess n) (hr : r ∈ trTo ess n) (e : trP q = trP r) : q = r := by
  obtain ⟨_, es, h1, h2⟩ := mem_trTo hn hq
  obtain ⟨_, fs, g1, g2⟩ := mem_trTo hn hr
  have e1 : q.1 = r.1 := by have := congrArg Prod.fst e; exact Int.ofNat.inj this
  have e2 : q.2.1 = r.2.1 := by have := congrArg Prod.snd e; exact Int.ofNat.inj this
  rw [e1, g1] at h1
  cases h1
  rw [e2, g2] at h2
  exact Prod.ext e1 (Prod.ext e2 (Option.some.inj h2).symm)
/-- a link between two free ends -/
theorem Gr.own {ps : List (Str × Str)} (hP : PartOk ps) {ess : List (List Str)} {ls : List (Pl × Pl)} (h : Gr ps ess ls) {q r : Tr} (hq : q ∈ trTo ess ess.length) (hr : r ∈ trTo ess ess.length) (fq : trP q ∉ plsOf ls) (fr : trP r ∉ plsOf ls) (ne : q ≠ r) (hk : K1.look ps q.2.2 = some r.2.2) :
    Gr ps ess (ls ++ [mkL (q.1 : Int) (q.2.1 : Int) (r.1 : Int) (r.2.1 : Int)]) := by
  obtain ⟨_, es, h1, h2⟩ := mem_trTo (Nat.le_refl _) hq
  obtain ⟨_, fs, g1, g2⟩ := mem_trTo (Nat.le_refl _) hr
  have hne : trP q ≠ trP r := fun e => ne (tr_same (Nat.le_refl _) hq hr e)
  refine ⟨fun p hp => ?_, ?_, fun v hv => (h.cn v hv).mono fun p hp => List.mem_append_left _ hp⟩
  · rcases List.mem_append.mp hp with hp | hp
    · exact h.ok p hp
    · rw [List.mem_singleton.mp hp]
      exact mkL_ok hP h1 g1 h2 g2 hk hne
  · exact (mkL_pls _ _ _ _ _).nodup_iff.mpr (nd_add h.nd fq fr hne)
/-- a new copy hung at a free end -/
theorem Gr.hang {ps : List (Str × Str)} (hP : PartOk ps) {ess : List (List Str)} {ls : List (Pl × Pl)} (h : Gr ps ess ls) {q : Tr} (hq : q ∈ trTo ess ess.length) (fq : trP q ∉ plsOf ls) {es : List Str} {j : Nat} {y : Str} (hj : es[j]? = some y) (hk : K1.look ps q.2.2 = some y) :
    Gr ps (ess ++ [es]) (ls ++ [mkL (q.1 : Int) (q.2.1 : Int) (ess.length : Int) (j : Int)]) := by
  obtain ⟨hlt, e1, h1, h2⟩ := mem_trTo (Nat.le_refl _) hq
  have hne : trP q ≠ ((ess.length : Int), (j : Int)) := fun e => by
    have := congrArg Prod.fst e
    have : (q.1 : Int) = (ess.length : Int) := this
    omega
  have fr : ((ess.length : Int), (j : Int)) ∉ plsOf ls := fun hm => by
    obtain ⟨p, hp, e⟩ := mem_plsOf.mp hm
    obtain ⟨i1, j1, i2, j2, a1, a2, x1, x2, rfl, g1, g2, _⟩ := h.ok p hp
    have l1 := (List.getElem?_eq_some_iff.mp g1).1
    have l2 := (List.getElem?_eq_some_iff.mp g2).1
    rcases e with e | e
    · have : (i1 : Int) = (ess.length : Int) := congrArg Prod.fst e
      omega
    · have : (i2 : Int) = (ess.length : Int) := congrArg Prod.fst e
      omega
  refine ⟨fun p hp => ?_, ?_, fun v hv => ?_⟩
  · rcases List.mem_append.mp hp with hp | hp
    · exact (h.ok p hp).app es
    · rw [List.mem_singleton.mp hp]
      refine mkL_ok hP (e1 := e1) (e2 := es) ?_ ?_ h2 hj hk hne
      · rw [List.getElem?_append_left hlt]; exact h1
      · rw [List.getElem?_append_right (Nat.le_refl _), Nat.sub_self]; rfl
  · exact (mkL_pls _ _ _ _ _).nodup_iff.mpr (nd_add h.nd fq fr hne)
  · by_cases hv2 : v < ess.length
    · exact (h.cn v hv2).mono fun p hp => List.mem_append_left _ hp
    · rw [List.length_append, List.length_singleton] at hv
      have : v = ess.length := by omega
      subst this
      refine .step ((h.cn q.1 hlt).mono fun p hp => List.mem_append_left _ hp) (List.mem_append_right _ (List.mem_singleton.mpr rfl)) ?_
      exact mkL_mem
/-- an end as data -/
def trD (q : Tr) : PyData := .tuple [.int (q.1 : Int), .int (q.2.1 : Int), .str q.2.2]
theorem trD_lay {q : Tr} (h : PyData.strOk q.2.2 = true) : (trD q).canLay0 = true := by simp [trD, PyData.canLay0, PyData.canLayAll0, h]
theorem trD_dep (q : Tr) : (trD q).depth = 1 := by simp [trD, PyData.depth, PyData.depthAll]
theorem trD_sh {q : Tr} (h : PyData.strOk q.2.2 = true) : SeqAt.shaped (trD q) = true := by
  unfold SeqAt.shaped
  rw [trD_lay h, trD_dep]
  rfl
theorem lays_mem {α : Type} {f : α → PyData} : ∀ {qs : List α}, (∀ q ∈ qs, (f q).canLay0 = true) → PyData.canLayAll0 (qs.map f) = true
  | [], _ => by simp [PyData.canLayAll0]
  | q :: r, h => by simp [PyData.canLayAll0, h q (List.mem_cons_self ..), lays_mem fun z hz => h z (List.mem_cons_of_mem _ hz)]
theorem sh_mem {α : Type} {f : α → PyData} {n : Nat} {qs : List α} (h : ∀ q ∈ qs, (f q).canLay0 = true) (k : ∀ q, (f q).depth ≤ n) (hn : n ≤ 20) : SeqAt.shaped (.list (qs.map f)) = true := by
  unfold SeqAt.shaped
  have h2 := deps_of k qs
  simp only [PyData.canLay0, lays_mem h, PyData.depth, Bool.true_and]
  exact decide_eq_true (by omega)
theorem trD_eqv (p q : Tr) : PyData.eqv (trD p) (trD q) = decide (p = q) := by
  have e : PyData.eqv (trD p) (trD q) = (((p.1 : Int) == (q.1 : Int)) && (((p.2.1 : Int) == (q.2.1 : Int)) && ((p.2.2 == q.2.2) && true))) := by simp only [trD, PyData.eqv, PyData.eqvAll]
  rw [e]
  obtain ⟨a, b, c⟩ := p
  obtain ⟨a', b', c'⟩ := q
  by_cases h : (a, b, c) = (a', b', c')
  · cases h; simp
  · rw [decide_eq_false h]
    by_cases h1 : a = a'
    · by_cases h2 : b = b'
      · have h3 : c ≠ c' := fun z => h (by rw [h1, h2, z])
        simp [h1, h2, h3]
      · have : (b : Int) ≠ b' := by omega
        simp [this]
    · have : (a : Int) ≠ a' := by omega
      simp [this]
theorem dp_tr {K : PySem.W.Frag} {H : Hp} {t : Addr} {q : Tr} (h : H t = some (.tup (trV q))) : Dp K H (.ref t) (trD q) := .tup (SqT.of h) (.cons (.int _) (.cons (.int _) (.cons (.str _) .nil)))
theorem eqv_nil (ds : List PyData) : PyData.eqv (.list ds) (.list []) = ds.isEmpty := by
  cases ds <;> simp [PyData.eqv, PyData.eqvAll]
theorem nil_sh : SeqAt.shaped (.list []) = true := by
  unfold SeqAt.shaped
  simp [PyData.canLay0, PyData.canLayAll0, PyData.depth, PyData.depthAll]
theorem hung_dp {K : PySem.W.Frag} {ps : List (Str × Str)} {bs : List (Str × Addr)} {y : Str} {H : Hp} : ∀ {ts : List Addr}, (∀ t ∈ ts, Hung ps bs y H t) → ∃ ms : List (Str × Nat), ms.length = ts.length ∧ (∀ q ∈ ms, q.1 ∈ bs.map (·.1)) ∧ DpAll K H (ts.map V.ref) (ms.map fun q => PyData.tuple [.str q.1, .int (q.2 : Int)])
  | [], _ => ⟨[], rfl, (fun q hq => nomatch hq), .nil⟩
  | t :: ts, h => by
    obtain ⟨ms, h1, h3, h2⟩ := hung_dp fun u hu => h u (List.mem_cons_of_mem _ hu)
    obtain ⟨m, a, es, j, e, hl, _⟩ := h t (List.mem_cons_self ..)
    refine ⟨(m, j) :: ms, by simp [h1], fun q hq => ?_, .cons (.tup (SqT.of e) (.cons (.str _) (.cons (.int _) .nil))) h2⟩
    rcases List.mem_cons.mp hq with rfl | hq
    · exact List.mem_map.mpr ⟨_, look_mem hl, rfl⟩
    · exact h3 q hq
end K1

set_option Elab.async false
set_option linter.all false
set_option maxRecDepth 100000
set_option maxHeartbeats 1000000
namespace K1
open PySem PySem.Spec PyProof.Rows L2
/-- a drawn sheet: the list of its two dicts -/
structure ShD (H : Hp) (T A B : Addr) (ps : List (Str × Str)) (bs : List (Str × Addr)) : Prop where
  t : H T = some (.lst [.ref A, .ref B])
  a : H A = some (.dK (pk ps))
  b : H B = some (.dK (bk bs))
  P : PartOk ps
  O : BlkOk H ps bs
  p0 : ps ≠ []
  p8 : ps.length ≤ 8
  b0 : bs ≠ []
  b8 : bs.length ≤ 8
theorem ShD.nAB {H : Hp} {T A B : Addr} {ps : List (Str × Str)} {bs : List (Str × Addr)} (h : ShD H T A B ps bs) : A ≠ B := fun e => by
  have h1 := h.a
  rw [e, h.b] at h1
  cases bs with
  | nil => exact h.b0 rfl
  | cons p r =>
    cases ps with
    | nil => exact h.p0 rfl
    | cons q s =>
      have h2 := HO.dK.inj (Option.some.inj h1)
      have h3 := (List.cons.inj h2).1
      exact V.noConfusion (congrArg Prod.snd h3)
theorem ShD.same {H H' : Hp} {T A B : Addr} {ps : List (Str × Str)} {bs : List (Str × Addr)} (h : ShD H T A B ps bs) (e : Same H H') : ShD H' T A B ps bs :=
  ⟨e _ _ h.t, e _ _ h.a, e _ _ h.b, h.P, h.O.same fun b xs q => e _ _ q, h.p0, h.p8, h.b0, h.b8⟩
theorem ShD.kp {H H' : Hp} {d sc T A B : Addr} {ps : List (Str × Str)} {bs : List (Str × Addr)} (h : ShD H T A B ps bs) (hD : DrawAt H d sc) (n : T ≠ d) (e : Kp d H H') : ShD H' T A B ps bs := by
  obtain ⟨ns, k, h1, _⟩ := hD.ex
  exact ⟨e _ _ n h.t, e _ _ (ne_of h.a h1 (by intro z; cases z)) h.a, e _ _ (ne_of h.b h1 (by intro z; cases z)) h.b, h.P, h.O.same fun b xs q => e _ _ (ne_of q h1 (by intro z; cases z)) q, h.p0, h.p8, h.b0, h.b8⟩
section
variable {P : Program} {w : World} {K : PySem.W.Frag} {mg : Str → Option Value} {base : Heap}
def spSheet : Sp := fun vs H Q _ => ∃ (d sc : Addr) (j m t : Int), vs = [.ref d, .int j, .int m, .int t] ∧ DrawAt H d sc ∧ 1 ≤ j ∧ j ≤ 4 ∧ 1 ≤ m ∧ m ≤ 8 ∧ 1 ≤ t ∧ t ≤ 4 ∧
  ∀ (T A B : Addr) (ps : List (Str × Str)) (bs : List (Str × Addr)) (H' : Hp), ShD H' T A B ps bs → H T = none → H A = none → H B = none → DrawAt H' d sc → Kp d H H' → Q (.ref T) H'
theorem ok_sheet {f fP fB : Addr} {fd fdP fdB : FuncData} (F : Fun K "_law_sheet" "_law_sheet" sSheet f fd) (dP : D K mg "_law_partners" sPartners ["draw", "many"] fP fdP) (GP : FnOk P w K mg base CX0 7 fP fdP ["draw", "many"] spPartners)
    (dB : D K mg "_law_blocks" sBlocks ["draw", "partners", "many", "top"] fB fdB) (GB : FnOk P w K mg base CX0 7 fB fdB ["draw", "partners", "many", "top"] spBlocks) : FnOk P w K mg base CX0 8 f fd ["draw", "joints", "many", "top"] spSheet := by
  refine F.ok scSheet (fun vs H Q E h => ?_) (fun cdv A outer s H vs Q E hr h => ?_)
  · obtain ⟨d, sc, j, m, t, rfl, _⟩ := h
    rfl
  · obtain ⟨d, sc, j, m, t, rfl, hD, j1, j4, m1, m8, t1, t4, q⟩ := h
    refine ⟨_, pss_cons (ps_set (i := 4) scSheet.nd rfl (.inl rfl) (pe_call GP hr (by rfl) dP.m dP.F.kp dP.b .nil pass0 (pa_cons (pv 0) (pa_cons (pv 1) pa_nil))))
      (pss_one (ps_ret (pe_lst (pa_cons (pv 4) (pa_cons (pe_call GB hr (by rfl) dB.m dB.F.kp dB.b .nil pass0 (pa_cons (pv 0) (pa_cons (pv 4) (pa_cons (pv 2) (pa_cons (pv 3) pa_nil))))) pa_nil))))), ?_⟩
    refine ⟨_, rfl, _, rfl, d, sc, j, rfl, hD, j1, j4, fun A ps H1 pO p0 p8 nA e1 D1 k1 => ?_⟩
    refine ⟨_, rfl, _, rfl, _, rfl, _, rfl, _, rfl, d, sc, A, m, t, ps, rfl, D1, e1, p0, p8, m1, m8, t1, t4, fun B bs H2 bO b0 b8 nB e2 D2 k2 => ?_⟩
    refine ⟨(by show 2 ≤ sizeLine; decide), fun T nT => ?_⟩
    have nAd := hD.nd nA
    have nTd := D2.nd nT
    have nTs := D2.ns nT
    have eA := k2 _ _ nAd e1
    have nTA : A ≠ T := ne_of_none eA nT
    have nTB : B ≠ T := ne_of_none e2 nT
    refine q T A B ps bs _ ⟨upd_same, ?_, ?_, pO, bO.same fun b xs z => ?_, p0, p8, b0, b8⟩ ?_ nA ?_ (D2.upd nTd nTs) ((k1.trans k2).trans (Kp.of (same_upd nT)))
    · rw [upd_ne nTA]; exact eA
    · rw [upd_ne nTB]; exact e2
    · rw [upd_ne (ne_of_none z nT)]; exact z
    · exact k1.free nTd (k2.free nTd nT)
    · exact k1.free (D1.nd nB) nB
end
end K1

set_option Elab.async false
set_option linter.all false
set_option maxRecDepth 100000
set_option maxHeartbeats 1000000
namespace K1
open PySem PySem.Spec PyProof.Rows L2
/-- a pair that no sheet is made of -/
def Bad (P : Program) (w : World) (H : Hp) (x y : V) : Prop :=
  PartV H x false ∨ (PartV H x true ∧ ∃ (pa : Addr) (l : List (Str × V)), x = .ref pa ∧ H pa = some (.dK (sk l)) ∧ y ≠ .ref pa ∧ BlkV P w H l y false)
theorem Bad.same {P : Program} {w : World} {H H' : Hp} {x y : V} (h : Bad P w H x y) (e : Same H H') : Bad P w H' x y := by
  rcases h with h | ⟨h, pa, l, h1, h2, h3, h4⟩
  · exact .inl (h.same e)
  · exact .inr ⟨h.same e, pa, l, h1, e _ _ h2, h3, h4.same e⟩
theorem w_ok {z : Str} (h : IsW z) : sOk (.str z) := by
  refine ⟨Nat.le_of_lt (small1000 (Nat.le_trans h.hi (by decide))), ?_⟩
  unfold PySem.PyData.strOk
  rw [Array.all_eq_true']
  intro c hc
  have := h.ab c (Array.mem_toList_iff.mpr hc)
  exact decide_eq_true (by omega)
theorem not_w {z : Str} (h : wordB z = false) : ¬ IsW z := fun q => by rw [q.b] at h; cases h
/-! what a put leaves -/
section
variable {κ : Type} [DecidableEq κ]
theorem put_has (kvs : List (κ × V)) (k : κ) (v : V) : (k, v) ∈ putK kvs k v := by
  unfold putK
  by_cases h : (kvs.any fun kv => decide (kv.1 = k)) = true
  · rw [if_pos h]
    obtain ⟨p, hp, e⟩ := List.any_eq_true.mp h
    have e := of_decide_eq_true e
    exact List.mem_map.mpr ⟨p, hp, by rw [if_pos e, e]⟩
  · rw [if_neg h]
    exact List.mem_append_right _ (List.mem_singleton.mpr rfl)
theorem put_of {kvs : List (κ × V)} {k : κ} {v : V} {p : κ × V} (h : p ∈ putK kvs k v) : p = (k, v) ∨ p ∈ kvs := by
  unfold putK at h
  split at h
  · obtain ⟨q, hq, e⟩ := List.mem_map.mp h
    split at e
    · next e1 => subst e; exact .inl (by rw [e1])
    · subst e; exact .inr hq
  · rcases List.mem_append.mp h with h | h
    · exact .inr h
    · exact .inl (List.mem_singleton.mp h)
theorem put_nd {kvs : List (κ × V)} (k : κ) (v : V) (h : (kvs.map (·.1)).Nodup) : ((putK kvs k v).map (·.1)).Nodup := by
  cases hv : valV kvs k with
  | none => exact nd_putK v h hv
  | some u =>
    unfold putK
    rw [valV_any, hv]
    rw [if_pos (show (some u).isSome = true from rfl), List.map_map]
    have e : kvs.map ((·.1) ∘ fun kv : κ × V => if kv.1 = k then (kv.1, v) else kv) = kvs.map (·.1) := List.map_congr_left fun p _ => by
      show (if p.1 = k then (p.1, v) else p).1 = p.1
      split <;> rfl
    rw [e]
    exact h
end
def putS (l : List (Str × V)) (k : Str) (v : V) : List (Str × V) := putK l k v
theorem put_sk (l : List (Str × V)) (k : Str) (v : V) : putK (sk l) (Sum.inr k) v = sk (putS l k v) := by
  unfold putS putK sk
  have e : ((l.map fun p : Str × V => ((Sum.inr p.1 : Key), p.2)).any fun kv => decide (kv.1 = Sum.inr k)) = l.any fun kv => decide (kv.1 = k) := by
    rw [List.any_map]
    congr 1
    funext p
    show decide ((Sum.inr p.1 : Key) = Sum.inr k) = _
    by_cases h : p.1 = k
    · rw [decide_eq_true h, decide_eq_true (by rw [h])]
    · rw [decide_eq_false h, decide_eq_false (fun z => h (Sum.inr.inj z))]
  rw [e]
  split
  · rw [List.map_map, List.map_map]
    refine List.map_congr_left fun p _ => ?_
    show (if (Sum.inr p.1 : Key) = Sum.inr k then ((Sum.inr p.1 : Key), v) else (Sum.inr p.1, p.2)) = ((Sum.inr (if p.1 = k then (p.1, v) else p).1 : Key), (if p.1 = k then (p.1, v) else p).2)
    by_cases h : p.1 = k
    · rw [if_pos h, if_pos (by rw [h])]
    · rw [if_neg h, if_neg (fun z => h (Sum.inr.inj z))]
  · rw [List.map_append]
    rfl
theorem look_not {l : List (Str × V)} {z : Str} (h : ∀ p ∈ l, p.1 ≠ z) : look l z = none := look_none fun hm => by
  obtain ⟨p, hp, e⟩ := List.mem_map.mp hm
  exact h p hp e
theorem part_false {l : List (Str × V)} {p : Str × V} (h : p ∈ l) (e : entB l p = false) : partB l = false := by
  unfold partB
  have : l.all (entB l) = false := by
    cases hq : l.all (entB l) with
    | false => rfl
    | true => rw [List.all_eq_true.mp hq p h] at e; cases e
  rw [this, Bool.and_false]
/-- the drawn partners -/
theorem part_true {ps : List (Str × Str)} (h : PartOk ps) (h0 : ps ≠ []) : partB (pl ps) = true := by
  have e0 : (pl ps).isEmpty = false := by
    cases ps with
    | nil => exact absurd rfl h0
    | cons p r => rfl
  unfold partB
  rw [e0, Bool.not_false, Bool.true_and, pl_keys, Bool.and_eq_true, List.all_eq_true, List.all_eq_true]
  refine ⟨fun z hz => ?_, fun p hp => ?_⟩
  · obtain ⟨q, hq, rfl⟩ := List.mem_map.mp hz
    exact (h.wd q hq).b
  · unfold pl at hp
    obtain ⟨q, hq, rfl⟩ := List.mem_map.mp hp
    have hl := look_some h.nd (h.sym q hq)
    show (match look (pl ps) q.2 with | some v => eqS v q.1 | none => false) = true
    rw [look_pl]
    have hl' : look ps q.2 = some q.1 := hl
    rw [hl']
    show (q.1 == q.1) = true
    exact beq_self_eq_true _
theorem pl_part {H : Hp} {A : Addr} {ps : List (Str × Str)} (h : PartOk ps) (h0 : ps ≠ []) (h8 : ps.length ≤ 8) (e : H A = some (.dK (pk ps))) : PartV H (.ref A) true := by
  rw [← part_true h h0]
  refine .dct (l := pl ps) (by rw [sk_pl]; exact e) (by unfold pl; rw [List.length_map]; omega) (fun p hp => ?_) (fun p hp => ?_)
  · unfold pl at hp
    obtain ⟨q, hq, rfl⟩ := List.mem_map.mp hp
    exact w_ok (h.wd q hq)
  · unfold pl at hp
    obtain ⟨q, hq, rfl⟩ := List.mem_map.mp hp
    exact ⟨_, .str q.2, w_ok (h.wd _ (h.sym q hq))⟩
/-- partners with one of them spoilt -/
theorem put_part {H : Hp} {A : Addr} {ps : List (Str × Str)} {k : Str} {v : V} {kd : Kd} (h : PartOk ps) (h8 : ps.length ≤ 8) (hk : sOk (.str k)) (hv : Is H v kd) (ok : kOk kd)
    (bad : ∀ z, v = .str z → z ≠ k ∧ z ∉ ps.map (·.1)) (e : H A = some (.dK (sk (putS (pl ps) k v)))) : PartV H (.ref A) false := by
  have hb : entB (putS (pl ps) k v) (k, v) = false := by
    cases v with
    | str z =>
      obtain ⟨b1, b2⟩ := bad z rfl
      show (match look (putS (pl ps) k (.str z)) z with | some v => eqS v k | none => false) = false
      rw [look_not (fun p hp => ?_)]
      rcases put_of hp with rfl | hp
      · exact fun q => b1 q.symm
      · intro q
        refine b2 ?_
        have := List.mem_map_of_mem (f := (·.1)) hp
        rw [pl_keys, q] at this
        exact this
    | _ => rfl
  rw [← part_false (put_has (pl ps) k v) hb]
  refine .dct e ?_ (fun p hp => ?_) (fun p hp => ?_)
  · have := length_putK (pl ps) k v
    have e2 : (pl ps).length = ps.length := List.length_map ..
    show (putK (pl ps) k v).length ≤ 100
    omega
  · rcases put_of hp with rfl | hp
    · exact hk
    · unfold pl at hp
      obtain ⟨q, hq, rfl⟩ := List.mem_map.mp hp
      exact w_ok (h.wd q hq)
  · rcases put_of hp with rfl | hp
    · exact ⟨kd, hv, ok⟩
    · unfold pl at hp
      obtain ⟨q, hq, rfl⟩ := List.mem_map.mp hp
      exact ⟨_, .str q.2, w_ok (h.wd _ (h.sym q hq))⟩
/-- entries told one by one, one of them wrong -/
theorem pick_bools {α : Type} {R : α → Bool → Prop} {l : List α} (h : ∀ p ∈ l, ∃ b, R p b) (bad : ∃ p ∈ l, R p false) : ∃ bs : List Bool, bs.length = l.length ∧ bs.all id = false ∧ ∀ (i : Nat) p b, l[i]? = some p → bs[i]? = some b → R p b := by
  classical
  let f : α → Bool := fun p => if R p false then false else true
  refine ⟨l.map f, List.length_map .., ?_, fun i p b hp hb => ?_⟩
  · obtain ⟨p, hp, r⟩ := bad
    cases ha : (l.map f).all id with
    | false => rfl
    | true =>
      have := List.all_eq_true.mp ha (f p) (List.mem_map_of_mem hp)
      have e : f p = false := if_pos r
      rw [e] at this
      cases this
  · rw [List.getElem?_map, hp] at hb
    have hb := Option.some.inj hb
    subst hb
    show R p (if R p false then false else true)
    split
    · assumption
    · next hn =>
      obtain ⟨b, r⟩ := h p (List.mem_of_getElem? hp)
      cases b with
      | false => exact absurd r hn
      | true => exact r
theorem blk_bad {P : Program} {w : World} {H : Hp} {l : List (Str × V)} {a : Addr} {kvs : List (Key × V)} (e : H a = some (.dK kvs)) (hn : (kvs.map (·.1)).Nodup) (hl : kvs.length ≤ 100) (h : ∀ p ∈ kvs, ∃ b, EntV H l (some p.1) p.2 b) (bad : ∃ p ∈ kvs, EntV H l (some p.1) p.2 false) : BlkV P w H l (.ref a) false := by
  obtain ⟨bs, h1, h2, h3⟩ := pick_bools (R := fun (p : Key × V) b => EntV H l (some p.1) p.2 b) h bad
  rw [← h2]
  exact .dct e hn hl h1 fun i k v b hk hb => h3 i (k, v) b hk hb
theorem blk_badN {P : Program} {w : World} {H : Hp} {l : List (Str × V)} {a : Addr} {kvs : List (Option Key × V)} (e : H a = some (nkO P w a kvs)) (hn : (kvs.map (·.1)).Nodup) (hl : kvs.length ≤ 100) (h : ∀ p ∈ kvs, ∃ b, EntV H l p.1 p.2 b) (bad : ∃ p ∈ kvs, EntV H l p.1 p.2 false) : BlkV P w H l (.ref a) false := by
  obtain ⟨bs, h1, h2, h3⟩ := pick_bools (R := fun (p : Option Key × V) b => EntV H l p.1 p.2 b) h bad
  rw [← h2]
  exact .nk e hn hl h1 fun i k v b hk hb => h3 i (k, v) b hk hb
/-- the drawn blocks' entries -/
theorem ent_blk {H : Hp} {l : List (Str × V)} {ps : List (Str × Str)} {bs : List (Str × Addr)} (h : BlkOk H ps bs) (hP : PartOk ps) {p : Key × V} (hp : p ∈ bk bs) : ∃ b, EntV H l (some p.1) p.2 b := by
  unfold bk at hp
  obtain ⟨q, hq, rfl⟩ := List.mem_map.mp hp
  obtain ⟨es, h1, h2, h3, h4⟩ := h.tup q hq
  refine ⟨_, ⟨⟨_, .tup h1, fun x hx => ?_, fun xs e => ?_, rfl⟩, fun z e => ?_⟩⟩
  · obtain ⟨y, hy, rfl⟩ := List.mem_map.mp hx
    obtain ⟨r, hr, rfl⟩ := List.mem_map.mp (h4 y hy)
    exact w_ok (hP.wd r hr)
  · have e := Kd.tup.inj e
    rw [← e, List.length_map]
    omega
  · have e := Sum.inr.inj (Option.some.inj e)
    rw [← e]
    exact Nat.le_of_lt (small1000 (Nat.le_trans (h.wd q hq).hi (by decide)))
theorem bk_nd {bs : List (Str × Addr)} (h : (bs.map (·.1)).Nodup) : ((bk bs).map (·.1)).Nodup := by
  have e : (bk bs).map (·.1) = (bs.map (·.1)).map Sum.inr := by
    unfold bk
    rw [List.map_map, List.map_map]
    rfl
  rw [e]
  exact h.map _ fun a b n z => n (Sum.inr.inj z)
/-- blocks with one more entry, a wrong one -/
theorem put_blk {P : Program} {w : World} {H : Hp} {l : List (Str × V)} {ps : List (Str × Str)} {bs : List (Str × Addr)} {a : Addr} {k : Key} {v : V} (h : BlkOk H ps bs) (hP : PartOk ps) (h8 : bs.length ≤ 8) (e : H a = some (.dK (putK (bk bs) k v))) (bad : EntV H l (some k) v false) :
    BlkV P w H l (.ref a) false := by
  refine blk_bad e (put_nd k v (bk_nd h.nd)) ?_ (fun p hp => ?_) ⟨(k, v), put_has _ _ _, bad⟩
  · have := length_putK (bk bs) k v
    have e2 : (bk bs).length = bs.length := List.length_map ..
    omega
  · rcases put_of hp with rfl | hp
    · exact ⟨_, bad⟩
    · exact ent_blk h hP hp
theorem put_blkN {P : Program} {w : World} {H : Hp} {l : List (Str × V)} {ps : List (Str × Str)} {bs : List (Str × Addr)} {a : Addr} {v : V} (h : BlkOk H ps bs) (hP : PartOk ps) (h8 : bs.length ≤ 8) (e : H a = some (nkO P w a (optK (bk bs) ++ [(none, v)]))) (bad : EntV H l none v false) :
    BlkV P w H l (.ref a) false := by
  refine blk_badN e ?_ ?_ (fun p hp => ?_) ⟨(none, v), List.mem_append_right _ (List.mem_singleton.mpr rfl), bad⟩
  · rw [List.map_append, List.nodup_append]
    have e1 : (optK (bk bs)).map (·.1) = ((bk bs).map (·.1)).map some := by
      unfold optK
      rw [List.map_map, List.map_map]
      rfl
    refine ⟨?_, by simp, fun x hx y hy => ?_⟩
    · rw [e1]
      exact (bk_nd h.nd).map _ fun a b n z => n (Option.some.inj z)
    · rw [e1] at hx
      obtain ⟨k, _, rfl⟩ := List.mem_map.mp hx
      have : y = none := by simpa using hy
      rw [this]
      exact fun z => nomatch z
  · have e2 : (optK (bk bs)).length = bs.length := by unfold optK bk; rw [List.length_map, List.length_map]
    rw [List.length_append, e2, List.length_singleton]
    omega
  · rcases List.mem_append.mp hp with hp | hp
    · unfold optK at hp
      obtain ⟨q, hq, rfl⟩ := List.mem_map.mp hp
      exact ent_blk h hP hq
    · have := List.mem_singleton.mp hp
      subst this
      exact ⟨_, bad⟩
theorem ent_bad {H : Hp} {l : List (Str × V)} {k : Option Key} {v : V} {kd : Kd} (hv : Is H v kd) (ok : kOk kd) (h100 : ∀ xs, kd = .tup xs → xs.length ≤ 100) (sz : ∀ z, k = some (.inr z) → z.length ≤ sizeLine) (bad : wordK (keyK k) = false ∨ endsB l kd = false) : EntV H l k v false := by
  refine ⟨⟨kd, hv, ok, h100, ?_⟩, sz⟩
  unfold bEnt
  rcases bad with b | b <;> rw [b]
  · rw [Bool.false_and]
  · rw [Bool.and_false]
end K1

set_option Elab.async false
set_option linter.all false
set_option maxRecDepth 100000
set_option maxHeartbeats 1000000
namespace K1
open PySem PySem.Spec PyProof.Rows L2
/-- a heap without its tables -/
def noT (H : Hp) : Hp := fun b => match H b with
  | some (.tbl _) => none
  | o => o
theorem noT_eq {H : Hp} {b : Addr} {o : HO} (h : H b = some o) (n : ∀ ps, o ≠ .tbl ps) : noT H b = some o := by
  unfold noT
  rw [h]
  cases o with
  | tbl ps => exact absurd rfl (n ps)
  | _ => rfl
theorem noT_sub {H : Hp} : Same (noT H) H := fun b o e => by
  unfold noT at e
  cases h : H b with
  | none => rw [h] at e; cases e
  | some u =>
    rw [h] at e
    cases u with
    | tbl ps => cases e
    | _ => exact e
theorem noT_no {H : Hp} {b : Addr} {ps : Array Value} : noT H b ≠ some (.tbl ps) := fun e => by
  unfold noT at e
  cases h : H b with
  | none => rw [h] at e; cases e
  | some u =>
    rw [h] at e
    cases u with
    | tbl ps => cases e
    | _ => cases e
theorem noT_ext {H H1 H2 : Hp} (s : Same (noT H) H1) (e : LamX.ExtN H1 H2) : Same (noT H) H2 := fun b o h => e b o (s b o h) (fun ps z => noT_no (h.trans (congrArg some z)))
theorem Is.noT {H : Hp} {v : V} {k : Kd} (h : Is H v k) : Is (noT H) v k := by
  cases h with
  | str z => exact .str z
  | int i => exact .int i
  | bl b => exact .bl b
  | non => exact .non
  | tup h => exact .tup (noT_eq h (by intro ps z; cases z))
  | lst h => exact .lst (noT_eq h (by intro ps z; cases z))
  | dct h => exact .dct (noT_eq h (by intro ps z; cases z))
theorem PartV.noT {H : Hp} {x : V} {r : Bool} (h : PartV H x r) : PartV (noT H) x r := by
  cases h with
  | no h hk => exact .no h.noT hk
  | dct h hl hk hv =>
    refine .dct (noT_eq h (by intro ps z; cases z)) hl hk fun p hp => ?_
    obtain ⟨k, h1, h2⟩ := hv p hp
    exact ⟨k, h1.noT, h2⟩
theorem EntV.noT {H : Hp} {l : List (Str × V)} {k : Option Key} {v : V} {b : Bool} (h : EntV H l k v b) : EntV (noT H) l k v b := by
  obtain ⟨⟨kd, h1, h2, h3⟩, h4⟩ := h
  exact ⟨⟨kd, h1.noT, h2, h3⟩, h4⟩
theorem BlkV.noT {P : Program} {w : World} {H : Hp} {l : List (Str × V)} {x : V} {r : Bool} (h : BlkV P w H l x r) : BlkV P w (noT H) l x r := by
  cases h with
  | no h hk => exact .no h.noT hk
  | dct h hn hl hb he => exact .dct (noT_eq h (by intro ps z; cases z)) hn hl hb fun i k v b h1 h2 => (he i k v b h1 h2).noT
  | nk h hn hl hb he => exact .nk (noT_eq h (by intro ps z; unfold nkO at z; cases z)) hn hl hb fun i k v b h1 h2 => (he i k v b h1 h2).noT
theorem Bad.noT {P : Program} {w : World} {H : Hp} {x y : V} (h : Bad P w H x y) : Bad P w (noT H) x y := by
  rcases h with h | ⟨h, pa, l, h1, h2, h3, h4⟩
  · exact .inl h.noT
  · exact .inr ⟨h.noT, pa, l, h1, noT_eq h2 (by intro ps z; cases z), h3, h4.noT⟩
theorem ShD.noT {H : Hp} {T A B : Addr} {ps : List (Str × Str)} {bs : List (Str × Addr)} (h : ShD H T A B ps bs) : ShD (noT H) T A B ps bs :=
  ⟨noT_eq h.t (by intro ps z; cases z), noT_eq h.a (by intro ps z; cases z), noT_eq h.b (by intro ps z; cases z), h.P, h.O.same fun b xs q => noT_eq q (by intro ps z; cases z), h.p0, h.p8, h.b0, h.b8⟩
theorem SheetAt.noT {C : Addr} {H : Hp} {p pp bp np : Addr} {l b : List (Str × V)} (h : SheetAt C H p pp bp np l b) : SheetAt C (noT H) p pp bp np l b := by
  obtain ⟨⟨dx, h1⟩, ⟨l', h2, h3⟩, ⟨b', h4, h5, h6⟩⟩ := h
  exact ⟨⟨dx, noT_eq h1 (by intro ps z; cases z)⟩, ⟨l', noT_eq h2 (by intro ps z; cases z), h3⟩, ⟨b', noT_eq h4 (by intro ps z; cases z), h5, noT_eq h6 (by intro ps z; cases z)⟩⟩
theorem DrawAt.noT {H : Hp} {d s : Addr} (h : DrawAt H d s) : DrawAt (noT H) d s := by
  obtain ⟨⟨ns, n, h1, h2, h3⟩, h4⟩ := h
  exact ⟨⟨ns, n, noT_eq h1 (by intro ps z; cases z), noT_eq h2 (by intro ps z; cases z), h3⟩, h4⟩
theorem tab_kp {H H' : Hp} {d sc Pt : Addr} {q : Str} (t : LamX.TabS H Pt q) (hD : DrawAt H d sc) (e : Kp d H H') : LamX.TabS H' Pt q := by
  obtain ⟨ps, h1, h2, h3⟩ := t
  obtain ⟨ns, n, e1, _⟩ := hD.ex
  refine ⟨ps, e _ _ (ne_of h1 e1 (by intro z; cases z)) h1, h2, fun pos cv hc => ?_⟩
  obtain ⟨c, g1, g2⟩ := h3 pos cv hc
  exact ⟨c, g1, e _ _ (ne_of g2 e1 (by intro z; unfold LamX.CodeO at z; cases z)) g2⟩
theorem tab_sm {H H' : Hp} {Pt : Addr} {q : Str} (t : LamX.TabS H Pt q) (e : Same H H') : LamX.TabS H' Pt q := t.ext e
/-- two lists, or tuples, of the same texts -/
theorem ne_lists {K : PySem.W.Frag} {H : Hp} {a b : Addr} {zs : List Str} {Q : VK} (h1 : H a = some (.lst (zs.map V.str))) (h2 : H b = some (.lst (zs.map V.str))) (ok : ∀ z ∈ zs, sOk (.str z)) (q : Q (.bl false) H) : rNeD K (.ref a) (.ref b) H Q := by
  obtain ⟨ds, g1, g2, g3⟩ := dp_all (K := K) (H := H) (xs := zs.map V.str) (fun x hx => by
    obtain ⟨z, hz, rfl⟩ := List.mem_map.mp hx
    exact ok z hz)
  have sh : SeqAt.shaped (.list ds) = true := by
    unfold SeqAt.shaped
    simp only [PyData.canLay0, g2, PyData.depth, Bool.true_and]
    exact decide_eq_true (by omega)
  refine ⟨.list ds, .list ds, .lst (SqL.of h1) g1, .lst (SqL.of h2) g1, sh, sh, ?_⟩
  rw [SeqAt.eqv_refl (.list ds) (by simp only [PyData.canLay0, g2])]
  exact q
theorem ne_tups {K : PySem.W.Frag} {H : Hp} {a b : Addr} {zs : List Str} {Q : VK} (h1 : H a = some (.tup (zs.map V.str))) (h2 : H b = some (.tup (zs.map V.str))) (ok : ∀ z ∈ zs, sOk (.str z)) (q : Q (.bl false) H) : rNeD K (.ref a) (.ref b) H Q := by
  obtain ⟨ds, g1, g2, g3⟩ := dp_all (K := K) (H := H) (xs := zs.map V.str) (fun x hx => by
    obtain ⟨z, hz, rfl⟩ := List.mem_map.mp hx
    exact ok z hz)
  have sh : SeqAt.shaped (.tuple ds) = true := by
    unfold SeqAt.shaped
    simp only [PyData.canLay0, g2, PyData.depth, Bool.true_and]
    exact decide_eq_true (by omega)
  refine ⟨.tuple ds, .tuple ds, .tup (SqT.of h1) g1, .tup (SqT.of h2) g1, sh, sh, ?_⟩
  rw [SeqAt.eqv_refl (.tuple ds) (by simp only [PyData.canLay0, g2])]
  exact q
/-- the blocks of a drawn sheet -/
def bl (bs : List (Str × Addr)) : List (Str × V) := bs.map fun p => (p.1, V.ref p.2)
theorem sk_bl (bs : List (Str × Addr)) : sk (bl bs) = bk bs := by
  unfold sk bl bk
  rw [List.map_map]
  rfl
theorem bl_keys (bs : List (Str × Addr)) : (bl bs).map (·.1) = bs.map (·.1) := by
  unfold bl
  rw [List.map_map]
  rfl
theorem look_bl : ∀ (bs : List (Str × Addr)) (a : Str), K1.look (bl bs) a = (K1.look bs a).map V.ref
  | [], _ => rfl
  | p :: r, a => by
    have ih := look_bl r a
    unfold bl look at ih ⊢
    rw [List.map_cons, List.find?_cons, List.find?_cons]
    by_cases h : p.1 = a
    · simp [h]
    · simp only [h, decide_false]
      exact ih
theorem blk_true {P : Program} {w : World} {H : Hp} {ps : List (Str × Str)} {bs : List (Str × Addr)} {a : Addr} (h : BlkOk H ps bs) (hP : PartOk ps) (h8 : bs.length ≤ 8) (e : H a = some (.dK (bk bs))) : BlkV P w H (pl ps) (.ref a) true := by
  have hl : (bk bs).length = bs.length := List.length_map ..
  have e2 : (List.replicate bs.length true).all id = true := by
    rw [List.all_eq_true]
    intro x hx
    rw [(List.mem_replicate.mp hx).2]
    rfl
  rw [← e2]
  refine .dct e (bk_nd h.nd) (by omega) (by rw [List.length_replicate, hl]) fun i k v b hk hb => ?_
  have hb' : b = true := (List.mem_replicate.mp (List.mem_of_getElem? hb)).2
  subst hb'
  have hm := List.mem_of_getElem? hk
  unfold bk at hm
  obtain ⟨q, hq, eq⟩ := List.mem_map.mp hm
  obtain ⟨es, h1, h2, h3, h4⟩ := h.tup q hq
  have ek : k = Sum.inr q.1 := (congrArg Prod.fst eq).symm
  have ev : v = .ref q.2 := (congrArg Prod.snd eq).symm
  subst ek ev
  refine ⟨⟨_, .tup h1, fun x hx => ?_, fun xs e => ?_, ?_⟩, fun z e => ?_⟩
  · obtain ⟨y, hy, rfl⟩ := List.mem_map.mp hx
    obtain ⟨r, hr, rfl⟩ := List.mem_map.mp (h4 y hy)
    exact w_ok (hP.wd r hr)
  · rw [← Kd.tup.inj e, List.length_map]
    omega
  · show true = (wordB q.1 && (decide (1 ≤ (es.map V.str).length) && decide ((es.map V.str).length ≤ 4) && (es.map V.str).all (endB (pl ps))))
    rw [(h.wd q hq).b, List.length_map, decide_eq_true h2, decide_eq_true h3]
    symm
    rw [Bool.true_and, Bool.true_and, Bool.true_and, List.all_eq_true]
    intro x hx
    obtain ⟨y, hy, rfl⟩ := List.mem_map.mp hx
    obtain ⟨r, hr, rfl⟩ := List.mem_map.mp (h4 y hy)
    show (look (pl ps) r.1).isSome = true
    rw [look_pl, look_some hP.nd hr]
    rfl
  · rw [← Sum.inr.inj (Option.some.inj e)]
    exact Nat.le_of_lt (small1000 (Nat.le_trans (h.wd q hq).hi (by decide)))
theorem bad_init {P : Program} {w : World} {C CB : Addr} {H : Hp} {p dx : Addr} {x y : V} {Q : VK} {E : XK} (hp : H p = some (.ins C dx [])) (b : Bad P w H x y) (e : ∀ H', Same H H' → E (.ref CB) none H') : spInit P w C CB [.ref p, x, y] H Q E := by
  rcases b with b | ⟨b, pa, l, h1, h2, h3, h4⟩
  · exact ⟨p, dx, x, y, false, rfl, hp, b, .inl ⟨rfl, e⟩⟩
  · exact ⟨p, dx, x, y, true, rfl, hp, b, .inr ⟨rfl, pa, l, false, h1, h2, h3, h4, .inl ⟨rfl, e⟩⟩⟩
theorem SheetAt.kp {C : Addr} {H H' : Hp} {d sc p pp bp np : Addr} {l b : List (Str × V)} (h : SheetAt C H p pp bp np l b) (hD : DrawAt H d sc) (e : Kp d H H') : SheetAt C H' p pp bp np l b := by
  obtain ⟨⟨dx, h1⟩, ⟨l', h2, h3⟩, ⟨b', h4, h5, h6⟩⟩ := h
  obtain ⟨ns, k, g, _⟩ := hD.ex
  refine ⟨⟨dx, e _ _ (ne_of h1 g (by intro z; cases z)) h1⟩, ⟨l', e _ _ (ne_of h2 g (by intro z; cases z)) h2, h3⟩, ⟨b', e _ _ (ne_of h4 g (by intro z; cases z)) h4, h5, e _ _ (ne_of h6 g (fun z => ?_)) h6⟩⟩
  have z2 := HO.lst.inj z
  cases hb : b'.map (·.1) with
  | nil => rw [hb] at z2; cases z2
  | cons y r =>
    rw [hb] at z2
    exact V.noConfusion (List.cons.inj z2).1
theorem vals4 {H : Hp} {t1 u1 : Addr} (e1 : H t1 = some (.tup [.str "a"])) (e2 : H u1 = some (.lst [.int 1])) : ∀ x ∈ [V.non, V.str "", V.int 1, V.str "A", V.ref t1, V.ref u1], ∃ kd, Is H x kd ∧ ∀ z, kd = .str z → wordB z = false := by
  intro x hx
  have st : ∀ y : Str, wordB y = false → ∃ kd, Is H (.str y) kd ∧ ∀ z, kd = .str z → wordB z = false := fun y h3 => ⟨_, .str y, fun z e => by rw [← Kd.str.inj e]; exact h3⟩
  simp only [List.mem_cons, List.not_mem_nil, or_false] at hx
  rcases hx with rfl | rfl | rfl | rfl | rfl | rfl
  · exact ⟨_, .non, fun z e => nomatch e⟩
  · exact st _ (by decide +kernel)
  · exact ⟨_, .int 1, fun z e => nomatch e⟩
  · exact st _ (by decide +kernel)
  · exact ⟨_, .tup e1, fun z e => nomatch e⟩
  · exact ⟨_, .lst e2, fun z e => nomatch e⟩
theorem init_ok {P : Program} {w : World} {C CB : Addr} {H : Hp} {p dx A Y : Addr} {ps : List (Str × Str)} {bs : List (Str × Addr)} {Q : VK} {E : XK} (hp : H p = some (.ins C dx [])) (hA : H A = some (.dK (pk ps))) (hY : H Y = some (.dK (bk bs))) (hP : PartOk ps) (p0 : ps ≠ []) (p8 : ps.length ≤ 8)
    (O : BlkOk H ps bs) (b8 : bs.length ≤ 8) (n : Y ≠ A) (q : ∀ pp bp np H', SheetAt C H' p pp bp np (pl ps) (bl bs) → (∀ c o, c ≠ p → H c = some o → H' c = some o) → Q .non H') : spInit P w C CB [.ref p, .ref A, .ref Y] H Q E := by
  refine ⟨p, dx, _, _, true, rfl, hp, pl_part hP p0 p8 hA, .inr ⟨rfl, A, pl ps, true, rfl, by rw [sk_pl]; exact hA, (fun z => n (V.ref.inj z)), blk_true O hP b8 hY, .inr ⟨rfl, Y, bl bs, rfl, by rw [sk_bl]; exact hY, ?_, ?_, ?_, ?_, fun pp bp np H' _ _ _ hS k => q pp bp np H' hS k⟩⟩⟩
  · have : (pl ps).length = ps.length := List.length_map ..
    omega
  · rw [pl_keys]; exact hP.nd
  · have : (bl bs).length = bs.length := List.length_map ..
    omega
  · rw [bl_keys]; exact O.nd
theorem bk_drop (bs : List (Str × Addr)) (k : Str) : dropK (bk bs) (Sum.inr k) = bk (bs.filter fun p => decide (p.1 ≠ k)) := by
  unfold dropK bk
  rw [List.filter_map]
  congr 1
  refine List.filter_congr fun p _ => ?_
  rw [Bool.eq_iff_iff]
  simp
theorem BlkOk.sub {H : Hp} {ps : List (Str × Str)} {bs : List (Str × Addr)} (h : BlkOk H ps bs) (k : Str) : BlkOk H ps (bs.filter fun p => decide (p.1 ≠ k)) :=
  ⟨(List.filter_sublist.map _).nodup h.nd, fun p hp => h.wd p (List.mem_filter.mp hp).1, fun p hp => h.tup p (List.mem_filter.mp hp).1⟩
theorem filter_short {bs : List (Str × Addr)} {k : Str} (h : k ∈ bs.map (·.1)) : (bs.filter fun p => decide (p.1 ≠ k)).length < bs.length := by
  obtain ⟨p, hp, e⟩ := List.mem_map.mp h
  refine List.length_filter_lt_length_iff_exists.mpr ⟨p, hp, ?_⟩
  simp [e]
theorem flat_pl (ps : List (Str × Str)) : ∀ x ∈ pl ps, flatR x.2 = true := fun x hx => by
  unfold pl at hx
  obtain ⟨q, _, rfl⟩ := List.mem_map.mp hx
  rfl
theorem flat_bl (bs : List (Str × Addr)) : ∀ x ∈ bl bs, flatR x.2 = true := fun x hx => by
  unfold bl at hx
  obtain ⟨q, _, rfl⟩ := List.mem_map.mp hx
  rfl
/-- the blocks in another order -/
def turnB (bs : List (Str × Addr)) (zs : List Str) : List (Str × Addr) := zs.map fun k => (k, (K1.look bs k).getD 0)
theorem turnB_keys (bs : List (Str × Addr)) (zs : List Str) : (turnB bs zs).map (·.1) = zs := by
  unfold turnB
  rw [List.map_map]
  exact List.map_id _
theorem turnB_mem {bs : List (Str × Addr)} {zs : List Str} (hn : (bs.map (·.1)).Nodup) (hp : ∀ z ∈ zs, z ∈ bs.map (·.1)) {p : Str × Addr} (h : p ∈ turnB bs zs) : p ∈ bs := by
  unfold turnB at h
  obtain ⟨k, hk, rfl⟩ := List.mem_map.mp h
  obtain ⟨q, hq, e⟩ := List.mem_map.mp (hp k hk)
  have := look_some hn hq
  rw [e] at this
  rw [this]
  show (k, q.2) ∈ bs
  rw [← e]
  exact hq
theorem turnB_ok {H : Hp} {ps : List (Str × Str)} {bs : List (Str × Addr)} {zs : List Str} (h : BlkOk H ps bs) (hz : zs.Nodup) (hp : ∀ z ∈ zs, z ∈ bs.map (·.1)) : BlkOk H ps (turnB bs zs) :=
  ⟨by rw [turnB_keys]; exact hz, fun p q => h.wd p (turnB_mem h.nd hp q), fun p q => h.tup p (turnB_mem h.nd hp q)⟩
/-- a loop over a dict's keys -/
theorem for_keys {d : Addr} {o : Obj} {kvs : List (Key × V)} {g : TG} {tb : TS} {D : L2.Ends} {σ : L2.St} {H : Hp} (Pv : Nat → L2.St → Hp → Prop) (h0 : Pv 0 σ H) (hl : ∀ i σ H, Pv i σ H → H d = some (.frz o (.dK kvs)))
    (hs : ∀ i k v σ H, kvs[i]? = some (k, v) → Pv i σ H → g (kV k) σ H fun σ2 H2 => tb { D with nx := Pv (i + 1), ct := Pv (i + 1), bk := D.nx } σ2 H2) (hd : ∀ σ H, Pv kvs.length σ H → D.nx σ H) :
    ∃ W : Nat → Nat → L2.St → Hp → Prop, (∃ m, W 0 m σ H) ∧ ∀ i m σ H, W i m σ H →
      ((Itk d o kvs).stop i H ∧ D.nx σ H) ∨ ((Itk d o kvs).go i H ∧ ∃ N : L2.St → Hp → Prop, (∀ σ' H', N σ' H' → ∃ m', m' < m ∧ W (i + 1) m' σ' H') ∧ ∀ x H', (Itk d o kvs).yld i H x H' → g x σ H' fun σ2 H2 => tb { D with nx := N, ct := N, bk := D.nx } σ2 H2) := by
  refine ⟨fun i m σ H => m = kvs.length - i ∧ i ≤ kvs.length ∧ Pv i σ H, ⟨kvs.length, by simp, Nat.zero_le _, h0⟩, ?_⟩
  rintro i m σ H ⟨rfl, hi, p⟩
  have q := hl i σ H p
  by_cases hlt : i < kvs.length
  · refine .inr ⟨⟨q, hlt⟩, Pv (i + 1), fun σ' H' p' => ⟨kvs.length - (i + 1), by omega, rfl, hlt, p'⟩, fun x H' y => ?_⟩
    obtain ⟨eH, k, v, e, ex⟩ := y
    subst ex
    subst eH
    exact hs i k v σ _ e p
  · have e : i = kvs.length := by omega
    subst e
    exact .inl ⟨⟨q, Nat.le_refl _⟩, hd σ H p⟩
end K1

set_option Elab.async false
set_option linter.all false
set_option maxRecDepth 100000
set_option maxHeartbeats 4000000
namespace K1
open PySem PySem.Spec PyProof.Rows L2
open PySem.W (dataLe dataLt)
abbrev sLPiece : Stmt := topS 53
theorem scLPiece : FnScope ["draw", "sheet", "top", "odds", "blocks", "links", "turn", "free", "end", "own", "hung", "name", "place", "other"] ["draw", "sheet", "top", "odds"] (defScope sLPiece) := ⟨rfl, rfl, rfl, by decide +kernel, rfl, by decide +kernel, by decide +kernel⟩
theorem LkF.tk {H H' : Hp} {x : V} {o1 o2 : Addr} {p : Pl × Pl} (h : LkF H x o1 o2 p) (e : TupK H H') : LkF H' x o1 o2 p := by
  obtain ⟨t, h0, h1, h2, h3⟩ := h
  exact ⟨t, h0, e _ _ h1, e _ _ h2, e _ _ h3⟩
theorem TupK.trans {H H1 H2 : Hp} (a : TupK H H1) (b : TupK H1 H2) : TupK H H2 := fun c xs h => b c xs (a c xs h)
/-- a link as data -/
def lkD (p : Pl × Pl) : PyData := .tuple [plD p.1, plD p.2]
abbrev Lk := Addr × (Pl × Pl)
def lkR (y : Lk) : V := .ref y.1
def lkE (y : Lk) : PyData := lkD y.2
/-- the objects of links -/
def LkAll (H : Hp) (ys : List Lk) : Prop := ∀ y ∈ ys, ∃ o1 o2, LkF H (.ref y.1) o1 o2 y.2
theorem LkAll.tk {H H' : Hp} {ys : List Lk} (h : LkAll H ys) (e : TupK H H') : LkAll H' ys := fun y hy => by
  obtain ⟨o1, o2, z⟩ := h y hy
  exact ⟨o1, o2, z.tk e⟩
theorem LkAll.at {H : Hp} {ys : List Lk} (h : LkAll H ys) : ∀ (i : Nat) x p, (ys.map lkR)[i]? = some x → (ys.map (·.2))[i]? = some p → ∃ o1 o2, LkF H x o1 o2 p := fun i x p a b => by
  rw [List.getElem?_map] at a b
  cases hy : ys[i]? with
  | none => rw [hy] at a; cases a
  | some y =>
    rw [hy] at a b
    cases a
    cases b
    exact h y (List.mem_of_getElem? hy)
theorem Gr.perm {ps : List (Str × Str)} {ess : List (List Str)} {ls ms : List (Pl × Pl)} (h : Gr ps ess ls) (p : ms.Perm ls) : Gr ps ess ms :=
  ⟨fun q hq => h.ok q (p.mem_iff.mp hq), (List.Perm.flatMap_right _ p).nodup_iff.mpr h.nd, fun v hv => (h.cn v hv).mono fun q hq => p.mem_iff.mpr hq⟩
theorem lkD_dp {K : PySem.W.Frag} {H : Hp} {y : Lk} (h : ∃ o1 o2, LkF H (.ref y.1) o1 o2 y.2) : Dp K H (lkR y) (lkE y) := by
  obtain ⟨o1, o2, t, e, h1, h2, h3⟩ := h
  cases e
  exact .tup (SqT.of h1) (.cons (dp_pl h2) (.cons (dp_pl h3) .nil))
/-- what a drawn piece is -/
structure PcD (H : Hp) (ps : List (Str × Str)) (bs : List (Str × Addr)) (M BT LT : Addr) (nms : List Str) (ess : List (List Str)) (ys : List Lk) : Prop where
  m : H M = some (.lst [.ref BT, .ref LT])
  b : H BT = some (.tup (nms.map V.str))
  l : H LT = some (.tup (ys.map lkR))
  lk : LkAll H ys
  es : EssV H ps bs nms ess
  gr : Gr ps ess (ys.map (·.2))
  pw : ys.Pairwise (fun y z => dataLe false lkE y z = true)
  n1 : 1 ≤ nms.length
  n7 : nms.length ≤ 7
  l14 : ys.length ≤ 14
theorem tr_kind {H : Hp} {ps : List (Str × Str)} {bs : List (Str × Addr)} {nms : List Str} {ess : List (List Str)} (hE : EssV H ps bs nms ess) (hP : PartOk ps) {q : Tr} (hq : q ∈ trTo ess nms.length) : (∃ y, K1.look ps q.2.2 = some y) ∧ IsW q.2.2 := by
  obtain ⟨hlt, es, h1, h2⟩ := mem_trTo (by rw [hE.1]; exact Nat.le_refl _) hq
  obtain ⟨t, _, _, _, _, hk⟩ := hE.2 q.1 _ es (List.getElem?_eq_getElem hlt) h1
  obtain ⟨r, hr, e⟩ := List.mem_map.mp (hk _ (List.mem_of_getElem? h2))
  rw [← e]
  exact ⟨⟨r.2, look_some hP.nd hr⟩, hP.wd r hr⟩
/-- a for over a range that may be left early -/
theorem for_rangeB {lo : Int} {n : Nat} {g : TG} {tb : TS} {D : L2.Ends} {σ : L2.St} {H : Hp} (Pv : Nat → L2.St → Hp → Prop) (h0 : Pv 0 σ H) (hd : ∀ σ H, Pv n σ H → D.nx σ H)
    (hs : (∀ σ H, Pv n σ H → D.nx σ H) → ∀ i σ H, i < n → Pv i σ H → g (.int (lo + i)) σ H fun σ2 H2 => tb { D with nx := Pv (i + 1), ct := Pv (i + 1), bk := D.nx } σ2 H2) :
    ∃ W : Nat → Nat → L2.St → Hp → Prop, (∃ m, W 0 m σ H) ∧ ∀ i m σ H, W i m σ H →
      ((Itr lo n).stop i H ∧ D.nx σ H) ∨ ((Itr lo n).go i H ∧ ∃ N : L2.St → Hp → Prop, (∀ σ' H', N σ' H' → ∃ m', m' < m ∧ W (i + 1) m' σ' H') ∧ ∀ x H', (Itr lo n).yld i H x H' → g x σ H' fun σ2 H2 => tb { D with nx := N, ct := N, bk := D.nx } σ2 H2) := for_range Pv h0 (hs hd) hd
theorem bk_keys (bs : List (Str × Addr)) : (bk bs).map (·.1) = (bs.map (·.1)).map Sum.inr := by
  unfold bk
  rw [List.map_map, List.map_map]
  rfl
/-- what the loop keeps -/
structure LpI (H : Hp) (d sc BL LK : Addr) (ps : List (Str × Str)) (bs : List (Str × Addr)) (n i : Nat) (H' : Hp) : Prop where
  D : DrawAt H' d sc
  k : Kp d H H'
  ex : ∃ (nms : List Str) (ess : List (List Str)) (ys : List Lk), H' BL = some (.lst (nms.map V.str)) ∧ H' LK = some (.lst (ys.map lkR)) ∧ LkAll H' ys ∧ EssV H' ps bs nms ess ∧ Gr ps ess (ys.map (·.2)) ∧ 1 ≤ nms.length ∧ nms.length ≤ n ∧ ys.length ≤ i
section
variable {P : Program} {w : World} {K : PySem.W.Frag} {mg : Str → Option Value} {base : Heap}
def spLPiece : Sp := fun vs H Q _ => ∃ (d sc T A B : Addr) (t o : Int) (ps : List (Str × Str)) (bs : List (Str × Addr)), vs = [.ref d, .ref T, .int t, .int o] ∧ DrawAt H d sc ∧ ShD H T A B ps bs ∧ T ≠ d ∧ 1 ≤ t ∧ t ≤ 7 ∧ 0 < o ∧
  ∀ (M BT LT : Addr) (nms : List Str) (ess : List (List Str)) (ys : List Lk) (H' : Hp), H M = none → PcD H' ps bs M BT LT nms ess ys → DrawAt H' d sc → Kp d H H' → Q (.ref M) H'
theorem ok_lpiece {f fP fF fH fN fK : Addr} {fd dP dF dH dN dK : FuncData} (F : Fun K "_law_piece" "_law_piece" sLPiece f fd) (pk_ : Df P w K mg base CX0 4 "_law_pick" sPick ["draw", "things"] (spPick K) fP dP) (lf : Df P w K mg base CX0 2 "_law_free" sLFree ["sheet", "blocks", "links"] spLFree fF dF)
    (lh : Df P w K mg base CX0 1 "_law_hung" sLHung ["sheet", "kind"] spLHung fH dH) (nx : Df P w K mg base CX0 3 "_law_next" sNext ["draw", "bound"] spNext fN dN) (ll : Df P w K mg base CX0 1 "_law_link" sLLink ["one", "two"] spLLink fK dK) (Bt : Bi mg) (mr : mg "range" = none) :
    FnOk P w K mg base CX0 5 f fd ["draw", "sheet", "top", "odds"] spLPiece := by
  refine F.ok scLPiece (fun vs H Q E h => ?_) (fun cdv A outer s H vs Q E hr h => ?_)
  · obtain ⟨d, sc, T, D, B, t, o, ps, bs, rfl, _⟩ := h
    rfl
  · obtain ⟨d, sc, T, D, B, t, o, ps, bs, rfl, hD, hS, nTd, t1, t7, o1, q⟩ := h
    have hu := hu_of hr
    have h64 : (A.deeper (envOfC "_law_piece" (defScope sLPiece) s.heap.objs.size f cdv)).units + 64 < cLine := h64_of hr
    refine ⟨_, pss_cons (ps_par (i := 4) (j := 5) rfl scLPiece.nd rfl rfl (by decide) rfl rfl (pa_cons (pe_lst (pa_cons (pe_call pk_.G hr (by rfl) pk_.d.m pk_.d.F.kp pk_.d.b .nil pass0 (pa_cons (pv 0) (pa_cons (pe_callB (call_sortedD rfl) (by rfl) Bt.sorted boot_sorted (pa_cons (pe_ix ix_list (pv 1) pe_int (fun _ _ => rfl)) pa_nil)) pa_nil))) pa_nil)) (pa_cons (pe_lst pa_nil) pa_nil)) (by rfl))
      (pss_cons (ps_for PassesOwn.never rfl (pi_range1 rfl mr (pa_cons (pe_op op_mul pe_int (pv 2)) pa_nil)) (pg_name (i := 6) scLPiece.nd rfl (.inl rfl))
        (pss_cons (ps_set (i := 7) scLPiece.nd rfl (.inl rfl) (pe_call lf.G (hr.mono (by decide)) (by rfl) lf.d.m lf.d.F.kp lf.d.b .nil pass0 (pa_cons (pv 1) (pa_cons (pv 4) (pa_cons (pv 5) pa_nil)))))
        (pss_cons (ps_if (pt_cmpR (op_eqD h64) (pv 7) (pe_lst pa_nil) (nomark _)) (pss_one ps_break) pss_nil)
        (pss_cons (ps_set (i := 8) scLPiece.nd rfl (.inr rfl) (pe_call pk_.G hr (by rfl) pk_.d.m pk_.d.F.kp pk_.d.b .nil pass0 (pa_cons (pv 0) (pa_cons (pv 7) pa_nil))))
        (pss_cons (ps_setLc (i := 9) (own := [("other", 13)]) (g := gName 13) rfl scLPiece.nd rfl rfl (sw_true rfl rfl rfl (by decide +kernel)) (pi_list (pv 7))
            (blkOk_by (own := [("other", 13)]) (N := ["draw", "sheet", "top", "odds", "blocks", "links", "turn", "free", "end", "own", "hung", "name", "place", "other"]) (sc := defScope sLPiece) (by decide +kernel)) (fun _ _ _ _ _ => pg_name (i := 13) scLPiece.nd rfl (.inl rfl))
            (fun _ _ _ _ _ => pts_one (PW.pt (pw_and (pt_cmpR (show OpR _ _ (rNeD K) from op_neD h64) (pv 13) (pv 8) (nomark _))
              (pw_and1 (pt_cmpR op_eq (pe_dget hu (pe_ix (show IxR _ (rIxL K) from ix_list) (pv 1) pe_int (fun _ _ => rfl)) (pe_ix (show IxR _ (rIxT K) from ix_tup) (pv 8) pe_int (fun _ _ => rfl)) (fun _ _ => rfl)) (pe_ix (show IxR _ (rIxT K) from ix_tup) (pv 13) pe_int (fun _ _ => rfl)) (nomark _))))))
            (fun _ _ _ _ _ => pv 13))
        (pss_cons (ps_set (i := 10) scLPiece.nd rfl (.inl rfl) (pe_call lh.G (hr.mono (by decide)) (by rfl) lh.d.m lh.d.F.kp lh.d.b .nil pass0 (pa_cons (pv 1) (pa_cons (pe_ix ix_tup (pv 8) pe_int (fun _ _ => rfl)) pa_nil))))
        (pss_one (ps_if (PW.pt (pw_and (pt_cmpR (op_neD h64) (pv 9) (pe_lst pa_nil) (nomark _)) (pw_and1 (pt_cmpR op_eq (pe_call nx.G (hr.mono (by decide)) (by rfl) nx.d.m nx.d.F.kp nx.d.b .nil pass0 (pa_cons (pv 0) (pa_cons (pv 3) pa_nil))) pe_int (nomark _)))))
          (pss_one (ps_expr (pe_bm PySem.F.plainAttrs_list PySem.F.slot_list_append PySem.F.type_list_append mt_append (pv 5) (pa_cons (pe_call ll.G (hr.mono (by decide)) (by rfl) ll.d.m ll.d.F.kp ll.d.b .nil pass0 (pa_cons (pv 8) (pa_cons (pe_call pk_.G hr (by rfl) pk_.d.m pk_.d.F.kp pk_.d.b .nil pass0 (pa_cons (pv 0) (pa_cons (pv 9) pa_nil))) pa_nil))) pa_nil))))
          (pss_one (ps_if (PW.pt (pw_and (pt_cmpR (op_neD h64) (pv 10) (pe_lst pa_nil) (nomark _)) (pw_and1 (pt_cmpR op_lt (pe_callB call_len2 (by rfl) Bt.len PySem.boot_len (pa_cons (pv 4) pa_nil)) (pv 2) (nomark _)))))
            (pss_cons (ps_asg (pe_call pk_.G hr (by rfl) pk_.d.m pk_.d.F.kp pk_.d.b .nil pass0 (pa_cons (pv 0) (pa_cons (pv 10) pa_nil))) (pg_tup rfl (pgs_cons (pg_name (i := 11) scLPiece.nd rfl (.inl rfl)) (pgs_cons (pg_name (i := 12) scLPiece.nd rfl (.inl rfl)) pgs_nil))))
            (pss_cons (ps_expr (pe_bm PySem.F.plainAttrs_list PySem.F.slot_list_append PySem.F.type_list_append mt_append (pv 5) (pa_cons (pe_call ll.G (hr.mono (by decide)) (by rfl) ll.d.m ll.d.F.kp ll.d.b .nil pass0 (pa_cons (pv 8) (pa_cons (pe_tup (pa_cons (pe_callB call_len2 (by rfl) Bt.len PySem.boot_len (pa_cons (pv 4) pa_nil)) (pa_cons (pv 12) pa_nil))) pa_nil))) pa_nil)))
            (pss_one (ps_expr (pe_bm PySem.F.plainAttrs_list PySem.F.slot_list_append PySem.F.type_list_append mt_append (pv 4) (pa_cons (pv 11) pa_nil))))))
            pss_nil))))))))))
      (pss_one (ps_ret (pe_lst (pa_cons (pe_callTy call_tuple2 (by rfl) Bt.tuple boot_tuple (pa_cons (pv 4) pa_nil)) (pa_cons (pe_callTy call_tuple2 (by rfl) Bt.tuple boot_tuple (pa_cons (pe_callB (call_sorted2 lkR lkE h64) (by rfl) Bt.sorted boot_sorted (pa_cons (pv 5) pa_nil)) pa_nil)) pa_nil)))))), ?_⟩
    have b8 := hS.b8
    have hb0 : 0 < bs.length := List.length_pos_iff.mpr hS.b0
    -- blocks, links
    refine ⟨_, rfl, _, rfl, T, _, 1, _, rfl, rfl, SqL.of hS.t, at_of (j := 1) rfl rfl, B, bk bs, bs.map (·.1), rfl, .inl hS.b, bk_keys bs, by rw [List.length_map]; omega, fun zs sp perm srt nsp => ?_⟩
    have zl : zs.length = bs.length := by have := perm.length_eq; rw [List.length_map] at this; exact this
    have sa : Same H (upd H sp (.lst (zs.map V.str))) := same_upd nsp
    have ea : (upd H sp (.lst (zs.map V.str))) sp = some (.lst (zs.map V.str)) := upd_same
    have Da := hD.upd (o := .lst (zs.map V.str)) (hD.nd nsp) (hD.ns nsp)
    generalize (upd H sp (.lst (zs.map V.str))) = Ha at sa ea Da ⊢
    refine ⟨d, sc, sp, zs.map V.str, rfl, Da, SqL.of ea, hD.nd nsp, by rw [List.length_map]; omega, fun j v Hb hv Db kb => ?_⟩
    rw [List.getElem?_map] at hv
    cases hm : zs[j]? with
    | none => rw [hm] at hv; cases hv
    | some m =>
    rw [hm] at hv
    cases hv
    have hmb : m ∈ bs.map (·.1) := perm.mem_iff.mp (List.mem_of_getElem? hm)
    obtain ⟨r, hrb, rfl⟩ := List.mem_map.mp hmb
    have kab : Kp d H Hb := (Kp.of sa).trans kb
    have hSb := hS.kp hD nTd kab
    obtain ⟨es0, he0⟩ := hSb.O.tup r hrb
    have hl0 : K1.look bs r.1 = some r.2 := look_some hSb.O.nd hrb
    refine ⟨Nat.le_of_lt (small1000 (n := 1) (by decide)), fun BL nBL => ?_⟩
    have sb : Same Hb (upd Hb BL (.lst [.str r.1])) := same_upd nBL
    have eb : (upd Hb BL (.lst [.str r.1])) BL = some (.lst [.str r.1]) := upd_same
    have Dc := Db.upd (o := .lst [.str r.1]) (Db.nd nBL) (Db.ns nBL)
    have nBd : BL ≠ d := Db.nd nBL
    have nBs : BL ≠ sc := Db.ns nBL
    have nB0 : H BL = none := kab.free nBd nBL
    generalize (upd Hb BL (.lst [.str r.1])) = Hc at sb eb Dc ⊢
    refine ⟨Nat.zero_le _, fun LK nLK => ?_⟩
    have sc' : Same Hc (upd Hc LK (.lst [])) := same_upd nLK
    have ec : (upd Hc LK (.lst [])) LK = some (.lst []) := upd_same
    have Dd := Dc.upd (o := .lst []) (Dc.nd nLK) (Dc.ns nLK)
    have nLd : LK ≠ d := Dc.nd nLK
    have nLs : LK ≠ sc := Dc.ns nLK
    have kac : Kp d H Hc := kab.trans (Kp.of sb)
    have nL0 : H LK = none := kac.free nLd nLK
    have nBL2 : BL ≠ LK := ne_of_none eb nLK
    have eb2 := sc' _ _ eb
    generalize (upd Hc LK (.lst [])) = Hd at sc' ec Dd eb2 ⊢
    have kad : Kp d H Hd := kac.trans (Kp.of sc')
    have hEd : EssV Hd ps bs [r.1] [es0] := ⟨rfl, fun i m es a b => by
      match i, a, b with
      | 0, a, b =>
        cases a
        cases b
        exact ⟨r.2, hl0, sc' _ _ (sb _ _ he0.1), he0.2⟩⟩
    have i0 : LpI H d sc BL LK ps bs t.toNat 0 Hd := ⟨Dd, kad, [r.1], [es0], [], eb2, ec, (fun y hy => nomatch hy), hEd, Gr.start es0, Nat.le_refl _, by show 1 ≤ _; omega, Nat.le_refl _⟩
    clear Da Db Dc Dd kab kac kad hSb he0 hl0 sb eb sc' ec eb2 hEd sa ea kb
    refine ⟨_, _, rfl, ?_⟩
    refine ⟨_, rfl, _, _, rfl, rfl, .inl ⟨by decide, by decide⟩, 2 * t, rfl, by omega, by omega, ?_⟩
    refine for_rangeB (lo := 0) (n := (2 * t).toNat) (fun i σ H' => (∃ v6 v7 v8 v9 v10 v11 v12, σ = [some (.ref d), some (.ref T), some (.int t), some (.int o), some (.ref BL), some (.ref LK), v6, v7, v8, v9, v10, v11, v12, none]) ∧ LpI H d sc BL LK ps bs t.toNat i H') ⟨⟨none, none, none, none, none, none, none, rfl⟩, i0⟩ ?_ (fun fin => ?_)
    · -- the end
      rintro σ H1 ⟨⟨v6, v7, v8, v9, v10, v11, v12, rfl⟩, D1, k1, nms, ess, ys, hBL, hLK, hlk, hE, hG, n1, nt, yl⟩
      refine ⟨_, rfl, BL, nms.map V.str, rfl, .inl hBL, fun BT H2 hBT s2 => ?_⟩
      refine ⟨_, rfl, LK, ys, rfl, .inl (s2 _ _ hLK), fun y hy => lkD_dp (hlk.tk (same_tupK s2) y hy), ?_, ?_, fun y _ => ?_, fun X nX => ?_⟩
      · exact PySem.W.AllAlike.of fun b b' => by simp [PySem.W.alike, PySem.W.alikeAll, lkE, lkD, plD]
      · exact PySem.W.Sortable.tuples fun b => ⟨_, _, rfl⟩
      · simp [lkE, lkD, plD, PyData.depth, PyData.depthAll]
      have s3 := same_upd (o := .lst ((ys.mergeSort (dataLe false lkE)).map lkR)) nX
      have e3 : (upd H2 X (.lst ((ys.mergeSort (dataLe false lkE)).map lkR))) X = some (.lst ((ys.mergeSort (dataLe false lkE)).map lkR)) := upd_same
      generalize (upd H2 X (.lst ((ys.mergeSort (dataLe false lkE)).map lkR))) = H3 at s3 e3 ⊢
      refine ⟨X, _, rfl, .inl e3, fun LT H4 hLT s4 => ⟨Nat.le_of_lt (small1000 (n := 2) (by decide)), fun M nM => ?_⟩⟩
      have s14 := (s2.trans s3).trans s4
      have s5 : Same H4 (upd H4 M (.lst [.ref BT, .ref LT])) := same_upd nM
      have perm := List.mergeSort_perm ys (dataLe false lkE)
      have D5 := (D1.same s14).same s5
      refine q M BT LT nms ess (ys.mergeSort (dataLe false lkE)) _ ?_ ⟨upd_same, s5 _ _ (s4 _ _ (s3 _ _ hBT)), s5 _ _ hLT, fun y hy => ?_, ?_, hG.perm (perm.map _), data_sorted lkE ys, n1, by omega, ?_⟩ D5 ((k1.trans (Kp.of s14)).trans (Kp.of s5))
      · exact k1.free ((D1.same s14).nd nM) (s14.free nM)
      · exact (hlk.tk (same_tupK (s14.trans s5))) y (perm.mem_iff.mp hy)
      · exact hE.same (same_tupK (s14.trans s5))
      · rw [perm.length_eq]
        omega
    · rintro i σ H1 hi ⟨⟨v6, v7, v8, v9, v10, v11, v12, rfl⟩, D1, k1, nms, ess, ys, hBL, hLK, hlk, hE, hG, n1, nt, yl⟩
      have hS1 := hS.kp hD nTd k1
      have il : i < 14 := by omega
      refine ⟨_, rfl, _, rfl, _, rfl, T, D, B, BL, LK, ps, bs, nms, ess, ys.map lkR, ys.map (·.2), rfl, hS1.t, hS1.b, .inl hBL, hE, by omega, .inl hLK, by simp, by simp; omega, hlk.at, fun R H2 nR gR s2 => ?_⟩
      have h2 : ∀ q ∈ (trTo ess nms.length).filter (fun q => !decide (trP q ∈ plsOf (ys.map (·.2)))), q ∈ trTo ess ess.length ∧ trP q ∉ plsOf (ys.map (·.2)) ∧ (∃ y, K1.look ps q.2.2 = some y) ∧ PyData.strOk q.2.2 = true := fun q hq => by
        obtain ⟨a, b⟩ := List.mem_filter.mp hq
        obtain ⟨hk, hw⟩ := tr_kind hE hS1.P a
        exact ⟨by rw [hE.1]; exact a, of_decide_eq_false (by simpa using b), hk, by have := w_ok hw; simpa [sOk] using this.2⟩
      have hlen : ((trTo ess nms.length).filter (fun q => !decide (trP q ∈ plsOf (ys.map (·.2))))).length ≤ 28 := by
        refine Nat.le_trans (List.length_filter_le _ _) ?_
        have := trTo_len hE.four nms.length
        omega
      generalize ((trTo ess nms.length).filter fun q => !decide (trP q ∈ plsOf (ys.map (·.2)))) = fq at gR h2 hlen
      have D2 := D1.same s2
      have nRd : R ≠ d := D1.nd nR
      have k2 := k1.trans (Kp.of s2)
      have hBL2 := s2 _ _ hBL
      have hLK2 := s2 _ _ hLK
      have lk2 := hlk.tk (same_tupK s2)
      have hE2 := hE.same (same_tupK s2)
      have nRB : R ≠ BL := fun z => by rw [z, hBL] at nR; cases nR
      have nRL : R ≠ LK := fun z => by rw [z, hLK] at nR; cases nR
      clear s2 nR hE hlk hBL hLK k1 D1
      obtain ⟨ts, t1, t2, t3⟩ := gR
      refine ⟨_, rfl, Nat.zero_le _, fun E nE => ?_⟩
      have sE : Same H2 (upd H2 E (.lst [])) := same_upd nE
      have eE : (upd H2 E (.lst [])) E = some (.lst []) := upd_same
      have DE := D2.upd (o := .lst []) (D2.nd nE) (D2.ns nE)
      have kE := k2.trans (Kp.of sE)
      generalize (upd H2 E (.lst [])) = H3 at sE eE DE kE ⊢
      have lt3 : ∀ (j : Nat) t q, ts[j]? = some t → fq[j]? = some q → H3 t = some (.tup (trV q)) := fun j t q a b => sE _ _ (t3 j t q a b)
      have t13 := sE _ _ t1
      refine ⟨.list (fq.map trD), .list [], .lst (SqL.of t13) (dpall_of t2 fun j t q a b => dp_tr (lt3 j t q a b)), .lst (SqL.of eE) .nil, sh_mem (fun q hq => trD_lay (h2 q hq).2.2.2) (fun q => Nat.le_of_eq (trD_dep q)) (by decide), nil_sh, _, rfl, ?_⟩
      rw [eqv_nil]
      by_cases hne : fq = []
      · subst hne
        show if true = true then _ else _
        rw [if_pos rfl]
        exact fin _ _ ⟨⟨_, _, _, _, _, _, _, rfl⟩, DE, kE, nms, ess, ys, sE _ _ hBL2, sE _ _ hLK2, lk2.tk (same_tupK sE), hE2.same (same_tupK sE), hG, n1, nt, by omega⟩
      have hemp : (fq.map trD).isEmpty = false := by cases fq with
        | nil => exact absurd rfl hne
        | cons => rfl
      rw [hemp]
      show if false = true then _ else _
      rw [if_neg (by decide)]
      have f0 : 0 < fq.length := List.length_pos_iff.mpr hne
      refine ⟨_, rfl, _, rfl, d, sc, R, ts.map V.ref, rfl, DE, SqL.of t13, nRd, by rw [List.length_map, t2]; exact f0, fun j v H4 hv D4 k4 => ?_⟩
      have tk4 := k4.tup DE
      have hfull : ∀ {c o}, c ≠ d → H3 c = some o → H4 c = some o := fun n e => k4 _ _ n e
      have hBL4 := hfull nBd (sE _ _ hBL2)
      have hLK4 := hfull nLd (sE _ _ hLK2)
      have lk4 := (lk2.tk (same_tupK sE)).tk tk4
      have hE4 := (hE2.same (same_tupK sE)).same tk4
      have k14 := kE.trans k4
      have t14 := hfull nRd t13
      have lt4 : ∀ (j : Nat) t q, ts[j]? = some t → fq[j]? = some q → H4 t = some (.tup (trV q)) := fun j t q a b => tk4 _ _ (lt3 j t q a b)
      have hS4 := hS.kp hD nTd k14
      rw [List.getElem?_map] at hv
      cases htj : ts[j]? with
      | none => rw [htj] at hv; cases hv
      | some tj =>
      rw [htj] at hv
      cases hv
      obtain ⟨q, hq⟩ : ∃ q, fq[j]? = some q := ⟨_, List.getElem?_eq_getElem (by have := (List.getElem?_eq_some_iff.mp htj).1; omega)⟩
      obtain ⟨hq1, hq2, ⟨y, hy⟩, hq3⟩ := h2 q (List.mem_of_getElem? hq)
      have hT := lt4 j tj q htj hq
      clear k4 tk4 hfull lk2 hE2 hBL2 hLK2 t13 lt3 t1 t3 sE eE DE kE k2 D2
      refine ⟨_, rfl, R, rfl, ⟨_, SqL.of t14⟩, fun W nW => ?_⟩
      refine lc_list (K := K) (a := R) (xs := ts.map V.ref) (fun i G => RfAt trV G W ((fq.take i).filter fun r => !decide (r = q) && decide (K1.look ps q.2.2 = some r.2.2)) ∧ ∀ c o, c ≠ W → H4 c = some o → G c = some o) ⟨RfAt.nil, fun c o n e => by rw [upd_ne n]; exact e⟩ (fun i G _ p => SqL.of (p.2 _ _ (ne_of_none t14 nW) t14)) ?_ ?_
      · rintro i z G hz ⟨⟨rs, r1, r2, r3⟩, k3⟩
        rw [List.getElem?_map] at hz
        cases ht : ts[i]? with
        | none => rw [ht] at hz; cases hz
        | some t' =>
        rw [ht] at hz
        cases hz
        have hi : i < ts.length := (List.getElem?_eq_some_iff.mp ht).1
        obtain ⟨q0, hq0⟩ : ∃ q0, fq[i]? = some q0 := ⟨_, List.getElem?_eq_getElem (by omega)⟩
        have hT0 := lt4 i t' q0 ht hq0
        have hTG := k3 _ _ (ne_of_none hT0 nW) hT0
        have hTq := k3 _ _ (ne_of_none hT nW) hT
        have tk : fq.take (i + 1) = fq.take i ++ [q0] := by rw [List.take_add_one, hq0]; rfl
        have dump : ∀ G1, Same G G1 → (!decide (q0 = q) && decide (K1.look ps q.2.2 = some q0.2.2)) = false → RfAt trV G1 W ((fq.take (i + 1)).filter fun r => !decide (r = q) && decide (K1.look ps q.2.2 = some r.2.2)) ∧ ∀ c o, c ≠ W → H4 c = some o → G1 c = some o := fun G1 sM e => by
          refine ⟨?_, fun c o n e => sM _ _ (k3 c o n e)⟩
          rw [tk, List.filter_append]
          have : ([q0].filter fun r => !decide (r = q) && decide (K1.look ps q.2.2 = some r.2.2)) = [] := by simp only [List.filter_cons, List.filter_nil, e]; rfl
          rw [this, List.append_nil]
          exact RfAt.kept ⟨rs, r1, r2, r3⟩ sM
        refine ⟨rfl, _, rfl, _, rfl, trD q0, trD q, dp_tr hTG, dp_tr hTq, trD_sh (h2 q0 (List.mem_of_getElem? hq0)).2.2.2, trD_sh hq3, _, rfl, ?_⟩
        rw [trD_eqv]
        by_cases e1 : q0 = q
        · rw [decide_eq_true e1]
          show if (!true) = true then _ else _
          rw [if_neg (by decide)]
          exact dump _ (fun _ _ z => z) (by simp [e1])
        rw [decide_eq_false e1]
        show if (!false) = true then _ else _
        rw [if_pos (by decide)]
        refine ⟨_, rfl, T, _, 0, _, rfl, rfl, SqL.of (k3 _ _ (ne_of_none hS4.t nW) hS4.t), at_of (j := 0) rfl rfl, _, rfl, tj, _, 2, .str q.2.2, rfl, rfl, SqT.of hTq, at_of (j := 2) rfl rfl, D, .str y, rfl, ?_, _, rfl, t', _, 2, .str q0.2.2, rfl, rfl, SqT.of hTG, at_of (j := 2) rfl rfl, rfl, _, rfl, ?_⟩
        · have := DGet.k (k := Sum.inr q.2.2) (k3 _ _ (ne_of_none hS4.a nW) hS4.a)
          rw [← sk_pl, sk_val, look_pl, hy] at this
          exact this
        by_cases hyx : y = q0.2.2
        · rw [show decide (V.str y = V.str q0.2.2) = true by rw [hyx]; simp]
          show if true = true then _ else _
          rw [if_pos rfl]
          have hf : (!decide (q0 = q) && decide (K1.look ps q.2.2 = some q0.2.2)) = true := by rw [hy, ← hyx]; simp [e1]
          refine ⟨_, rfl, _, r1, ?_, ?_, fun c o n e => by rw [upd_ne n]; exact k3 c o n e⟩
          · rw [List.length_map, r2]
            have h1 := List.length_filter_le (fun r => !decide (r = q) && decide (K1.look ps q.2.2 = some r.2.2)) (fq.take i)
            have h2 := List.length_take_le i fq
            exact small1000 (by omega)
          · rw [tk, List.filter_append]
            have : ([q0].filter fun r => !decide (r = q) && decide (K1.look ps q.2.2 = some r.2.2)) = [q0] := by simp only [List.filter_cons, List.filter_nil, hf]; rfl
            rw [this]
            exact RfAt.push r1 r2 r3 (fun c o n e => e) hTG (ne_of_none hT0 nW)
        · rw [decide_eq_false (show ¬ V.str y = V.str q0.2.2 from fun z => hyx (V.str.inj z))]
          show if false = true then _ else _
          rw [if_neg Bool.false_ne_true]
          exact dump _ (fun _ _ z => z) (by rw [hy]; simp [hyx])
      rintro H5 ⟨gO, k5⟩
      rw [List.length_map, t2, List.take_length] at gO
      have s5 : Same H4 H5 := fun c o e => k5 c o (ne_of_none e nW) e
      have hown : ∀ r ∈ fq.filter (fun r => !decide (r = q) && decide (K1.look ps q.2.2 = some r.2.2)), r ∈ fq ∧ r ≠ q ∧ K1.look ps q.2.2 = some r.2.2 := fun r hr => by
        obtain ⟨a, b⟩ := List.mem_filter.mp hr
        rw [Bool.and_eq_true] at b
        exact ⟨a, by simpa using b.1, by simpa using b.2⟩
      have hol : (fq.filter (fun r => !decide (r = q) && decide (K1.look ps q.2.2 = some r.2.2))).length ≤ 28 := Nat.le_trans (List.length_filter_le _ _) hlen
      generalize (fq.filter fun r => !decide (r = q) && decide (K1.look ps q.2.2 = some r.2.2)) = own at gO hown hol
      have nWd : W ≠ d := D4.nd nW
      have hS5 := hS4.kp D4 nTd (Kp.of s5)
      have D5 := D4.same s5
      refine ⟨_, rfl, _, rfl, tj, _, 2, .str q.2.2, rfl, rfl, SqT.of (s5 _ _ hT), at_of (j := 2) rfl rfl, T, D, B, ps, bs, q.2.2, y, rfl, hS5.t, hS5.a, hS5.b, hy, hS5.O, hS5.b8, fun L H6 nL gL s6 => ?_⟩
      have s46 := s5.trans s6
      have D6 := D5.same s6
      have nLHd : L ≠ d := D5.nd nL
      have gO6 := gO.kept s6
      have hT6 := s46 _ _ hT
      have hBL6 := s46 _ _ hBL4
      have hLK6 := s46 _ _ hLK4
      have lk6 := lk4.tk (same_tupK s46)
      have hE6 := hE4.same (same_tupK s46)
      have k6 := k14.trans (Kp.of s46)
      clear s46 s6 gO D5 hS5 s5 k5 D4 hS4 hT lt4 k14 hE4 lk4 hLK4 hBL4 t14
      refine ⟨_, rfl, Nat.zero_le _, fun E2 nE2 => ?_⟩
      have s7 : Same H6 (upd H6 E2 (.lst [])) := same_upd nE2
      have e7 : (upd H6 E2 (.lst [])) E2 = some (.lst []) := upd_same
      have D7 := D6.upd (o := .lst []) (D6.nd nE2) (D6.ns nE2)
      generalize (upd H6 E2 (.lst [])) = H7 at s7 e7 D7 ⊢
      obtain ⟨rs, r1, r2, r3⟩ := gO6.kept s7
      have gL7 := gL.same s7
      have hT7 := s7 _ _ hT6
      have hBL7 := s7 _ _ hBL6
      have hLK7 := s7 _ _ hLK6
      have lk7 := lk6.tk (same_tupK s7)
      have hE7 := hE6.same (same_tupK s7)
      have k7 := k6.trans (Kp.of s7)
      clear gO6 gL hT6 hBL6 hLK6 lk6 hE6 k6 D6
      refine ⟨.list (own.map trD), .list [], .lst (SqL.of r1) (dpall_of r2 fun j t q a b => dp_tr (r3 j t q a b)), .lst (SqL.of e7) .nil, sh_mem (fun q hq => trD_lay (h2 q (hown q hq).1).2.2.2) (fun q => Nat.le_of_eq (trD_dep q)) (by decide), nil_sh, _, rfl, ?_⟩
      rw [eqv_nil]
      by_cases hoe : own = []
      case' pos =>
        have hemp2 : (own.map trD).isEmpty = true := by rw [hoe]; rfl
        rw [hemp2]
        show if (!true) = true then _ else _
        rw [if_neg (by decide)]
        generalize H7 = H8 at k7 D7 hBL7 hLK7 lk7 hE7 gL7 hT7 ⊢
        have k8 := k7
        have D8 := D7
        have hBL8 := hBL7
        have hLK8 := hLK7
        have lk8 := lk7
        have hE8 := hE7
        have gL8 := gL7
        have hT8 := hT7
        clear k7 D7 hBL7 hLK7 lk7 hE7 gL7 hT7 e7 s7 r1 r3
      case' neg =>
        have hemp2 : (own.map trD).isEmpty = false := by cases own with
          | nil => exact absurd rfl hoe
          | cons => rfl
        rw [hemp2]
        show if (!false) = true then _ else _
        rw [if_pos (by decide)]
        refine ⟨_, rfl, _, rfl, d, sc, o, rfl, D7, o1, fun r H8 r0 rb D8 k78 => ⟨rfl, _, rfl, ?_⟩⟩
        have tk8 := k78.tup D7
        have hBL8 := k78 _ _ nBd hBL7
        have hLK8 := k78 _ _ nLd hLK7
        have lk8 := lk7.tk tk8
        have hE8 := hE7.same tk8
        have k8 := k7.trans k78
        have gL8 : HungAt ps bs y 32 H8 L := by
          obtain ⟨us, u1, u2, u3⟩ := gL7
          exact ⟨us, k78 _ _ nLHd u1, u2, fun t ht => (u3 t ht).same tk8⟩
        have hT8 := tk8 _ _ hT7
        have r18 := k78 _ _ nWd r1
        have r38 : ∀ (j : Nat) t q, rs[j]? = some t → own[j]? = some q → H8 t = some (.tup (trV q)) := fun j t q a b => tk8 _ _ (r3 j t q a b)
        clear k78 tk8 k7 hE7 lk7 hLK7 hBL7 D7 gL7 hT7 e7 s7 r1 r3
        by_cases hr0 : r = 0
        case pos =>
          rw [show decide (V.int r = V.int 0) = true by rw [hr0]; simp]
          show if true = true then _ else _
          rw [if_pos rfl]
          refine ⟨_, rfl, .inl ⟨rfl, _, SqL.of hLK8⟩, _, rfl, _, rfl, _, rfl, d, sc, W, rs.map V.ref, rfl, D8, SqL.of r18, nWd, by rw [List.length_map, r2]; exact List.length_pos_iff.mpr hoe, fun j2 v2 H9 hv2 D9 k89 => ?_⟩
          rw [List.getElem?_map] at hv2
          cases ht2 : rs[j2]? with
          | none => rw [ht2] at hv2; cases hv2
          | some tw =>
          rw [ht2] at hv2
          cases hv2
          obtain ⟨qw, hqw⟩ : ∃ qw, own[j2]? = some qw := ⟨_, List.getElem?_eq_getElem (by have := (List.getElem?_eq_some_iff.mp ht2).1; omega)⟩
          obtain ⟨w1, w2, w3⟩ := hown qw (List.mem_of_getElem? hqw)
          have tk9 := k89.tup D8
          refine ⟨tj, tw, (q.1 : Int), (q.2.1 : Int), (qw.1 : Int), (qw.2.1 : Int), [.str q.2.2], [.str qw.2.2], rfl, tk9 _ _ hT8, tk9 _ _ (r38 j2 tw qw ht2 hqw), fun x oa ob H10 hl s10 => ?_⟩
          have hLK10 := s10 _ _ (k89 _ _ nLd hLK8)
          refine ⟨LK, _, .ref x, rfl, rfl, hLK10, by rw [List.length_map]; exact small1000 (by omega), ?_⟩
          have tkU : TupK H10 (upd H10 LK (.lst (ys.map lkR ++ [.ref x]))) := upd_tupK hLK10
          have tkA := (tk9.trans (same_tupK s10)).trans tkU
          refine ⟨⟨_, _, _, _, _, _, _, rfl⟩, (D9.same s10).upd nLd nLs, fun c o2 n e => ?_, nms, ess, ys ++ [(x, mkL (q.1 : Int) (q.2.1 : Int) (qw.1 : Int) (qw.2.1 : Int))], ?_, ?_, ?_, hE8.same tkA, ?_, n1, nt, ?_⟩
          · rw [upd_ne (ne_of_none e nL0)]
            exact s10 _ _ ((k8.trans k89) c o2 n e)
          · rw [upd_ne nBL2]
            exact s10 _ _ (k89 _ _ nBd hBL8)
          · rw [upd_same, List.map_append]
            rfl
          · intro y hy
            rcases List.mem_append.mp hy with hy | hy
            · exact (lk8.tk tkA) y hy
            · rw [List.mem_singleton.mp hy]
              exact ⟨oa, ob, hl.tk tkU⟩
          · rw [List.map_append]
            exact hG.own hS.P hq1 (h2 qw w1).1 hq2 (h2 qw w1).2.1 (fun z => w2 z.symm) w3
          · rw [List.length_append, List.length_singleton]
            omega
        rw [decide_eq_false (show ¬ V.int r = V.int 0 from fun z => hr0 (V.int.inj z))]
        show if false = true then _ else _
        rw [if_neg Bool.false_ne_true]
        clear hr0 r18 r38
      all_goals
        refine ⟨_, rfl, Nat.zero_le _, fun E3 nE3 => ?_⟩
        have s9 : Same H8 (upd H8 E3 (.lst [])) := same_upd nE3
        have e9 : (upd H8 E3 (.lst [])) E3 = some (.lst []) := upd_same
        have D9 := D8.upd (o := .lst []) (D8.nd nE3) (D8.ns nE3)
        generalize (upd H8 E3 (.lst [])) = H9 at s9 e9 D9 ⊢
        have hBL9 := s9 _ _ hBL8
        have hLK9 := s9 _ _ hLK8
        have lk9 := lk8.tk (same_tupK s9)
        have hE9 := hE8.same (same_tupK s9)
        have k9 := k8.trans (Kp.of s9)
        have hT9 := s9 _ _ hT8
        obtain ⟨us, u1, u2, u3⟩ := gL8.same s9
        clear s9 gL8 D8 k8 hBL8 hLK8 lk8 hE8 hT8
        obtain ⟨ms, m1, m2, m3⟩ := hung_dp (K := K) u3
        have hstay : LpI H d sc BL LK ps bs t.toNat (i + 1) H9 := ⟨D9, k9, nms, ess, ys, hBL9, hLK9, lk9, hE9, hG, n1, nt, by omega⟩
        refine ⟨.list (ms.map fun (q : Str × Nat) => PyData.tuple [.str q.1, .int (q.2 : Int)]), .list [], .lst (SqL.of u1) m3, .lst (SqL.of e9) .nil, sh_mem (n := 1) (fun r hr => ?_) (fun r => ?_) (by decide), nil_sh, _, rfl, ?_⟩
        · have : PyData.strOk r.1 = true := by
            obtain ⟨r', hr', e⟩ := List.mem_map.mp (m2 r hr)
            rw [← e]
            have := w_ok (hS.O.wd r' hr')
            simpa [sOk] using this.2
          simp [PyData.canLay0, PyData.canLayAll0, this]
        · simp [PyData.depth, PyData.depthAll]
        rw [eqv_nil]
        by_cases hme : ms = []
        · have hemp3 : (ms.map fun (q : Str × Nat) => PyData.tuple [.str q.1, .int (q.2 : Int)]).isEmpty = true := by rw [hme]; rfl
          rw [hemp3]
          show if (!true) = true then _ else _
          rw [if_neg (by decide)]
          exact ⟨⟨_, _, _, _, _, _, _, rfl⟩, hstay⟩
        have hemp3 : (ms.map fun (q : Str × Nat) => PyData.tuple [.str q.1, .int (q.2 : Int)]).isEmpty = false := by cases ms with
          | nil => exact absurd rfl hme
          | cons => rfl
        rw [hemp3]
        show if (!false) = true then _ else _
        rw [if_pos (by decide)]
        refine ⟨_, rfl, BL, nms.map V.str, rfl, .inl hBL9, _, rfl, _, _, rfl, rfl, _, rfl, ?_⟩
        by_cases hnt : (((nms.map V.str).length : Nat) : Int) < t
        case neg =>
          rw [decide_eq_false hnt]
          show if false = true then _ else _
          rw [if_neg Bool.false_ne_true]
          exact ⟨⟨_, _, _, _, _, _, _, rfl⟩, hstay⟩
        rw [decide_eq_true hnt]
        show if true = true then _ else _
        rw [if_pos rfl]
        rw [List.length_map] at hnt
        refine ⟨_, rfl, _, rfl, d, sc, L, us.map V.ref, rfl, D9, SqL.of u1, nLHd, by rw [List.length_map, ← m1]; exact List.length_pos_iff.mpr hme, fun j2 v2 H10 hv2 D10 k910 => ?_⟩
        rw [List.getElem?_map] at hv2
        cases ht2 : us[j2]? with
        | none => rw [ht2] at hv2; cases hv2
        | some tw =>
        rw [ht2] at hv2
        cases hv2
        have tk10 := k910.tup D9
        obtain ⟨m, am, es, jm, g1, g2, g3, g4⟩ := (u3 tw (List.mem_of_getElem? ht2)).same tk10
        refine ⟨tw, _, rfl, SqT.of g1, rfl, _, _, rfl, _, _, rfl, rfl, ?_⟩
        have hBL10 := k910 _ _ nBd hBL9
        have hLK10 := k910 _ _ nLd hLK9
        have lk10 := lk9.tk tk10
        have hE10 := hE9.same tk10
        have k10 := k9.trans k910
        have hT10 := tk10 _ _ hT9
        clear k910 tk10 hBL9 hLK9 lk9 hE9 k9 hT9 hstay u1 u2 u3 m1 m2 m3 e9 D9
        refine ⟨_, rfl, .inl ⟨rfl, _, SqL.of hLK10⟩, _, rfl, _, rfl, BL, nms.map V.str, rfl, .inl hBL10, _, rfl, Nat.le_of_lt (small1000 (n := 2) (by decide)), fun M nM => ?_⟩
        have s11 : Same H10 (upd H10 M (.tup [.int ((nms.map V.str).length : Nat), .int (jm : Int)])) := same_upd nM
        have e11 : (upd H10 M (.tup [.int ((nms.map V.str).length : Nat), .int (jm : Int)])) M = some (.tup [.int ((nms.map V.str).length : Nat), .int (jm : Int)]) := upd_same
        generalize (upd H10 M (.tup [.int ((nms.map V.str).length : Nat), .int (jm : Int)])) = H11 at s11 e11 ⊢
        refine ⟨tj, M, (q.1 : Int), (q.2.1 : Int), ((nms.map V.str).length : Nat), (jm : Int), [.str q.2.2], [], rfl, s11 _ _ hT10, e11, fun x oa ob H12 hl s12 => ?_⟩
        rw [List.length_map, ← hE10.1] at hl
        have s102 := s11.trans s12
        have hLK12 := s102 _ _ hLK10
        have hBL12 := s102 _ _ hBL10
        refine ⟨LK, _, .ref x, rfl, rfl, hLK12, by rw [List.length_map]; exact small1000 (by omega), ?_⟩
        refine ⟨_, rfl, .inl ⟨rfl, _, SqL.of (by rw [upd_ne nBL2]; exact hBL12)⟩, _, rfl, BL, _, .str m, rfl, rfl, by rw [upd_ne nBL2]; exact hBL12, by rw [List.length_map]; exact small1000 (by omega), ?_⟩
        have tkU : TupK H12 (upd H12 LK (.lst (ys.map lkR ++ [.ref x]))) := upd_tupK hLK12
        have tkV : TupK (upd H12 LK (.lst (ys.map lkR ++ [.ref x]))) (upd (upd H12 LK (.lst (ys.map lkR ++ [.ref x]))) BL (.lst (nms.map V.str ++ [.str m]))) := upd_tupK (by rw [upd_ne nBL2]; exact hBL12)
        have tkW := tkU.trans tkV
        have tkA := (same_tupK s102).trans tkW
        refine ⟨⟨_, _, _, _, _, _, _, rfl⟩, ((D10.same s102).upd nLd nLs).upd nBd nBs, fun c o2 n e => ?_, nms ++ [m], ess ++ [es], ys ++ [(x, mkL (q.1 : Int) (q.2.1 : Int) (ess.length : Int) (jm : Int))], ?_, ?_, ?_, ?_, ?_, ?_, ?_, ?_⟩
        · rw [upd_ne (ne_of_none e nB0), upd_ne (ne_of_none e nL0)]
          exact s102 _ _ (k10 c o2 n e)
        · rw [upd_same, List.map_append]
          rfl
        · rw [upd_ne nBL2.symm, upd_same, List.map_append]
          rfl
        · intro y hy
          rcases List.mem_append.mp hy with hy | hy
          · exact (lk10.tk tkA) y hy
          · rw [List.mem_singleton.mp hy]
            exact ⟨oa, ob, hl.tk tkW⟩
        · refine ⟨by rw [List.length_append, List.length_append, hE10.1]; rfl, fun i2 m2 es2 a b => ?_⟩
          by_cases hi2 : i2 < nms.length
          · rw [List.getElem?_append_left hi2] at a
            rw [List.getElem?_append_left (by rw [hE10.1]; exact hi2)] at b
            obtain ⟨z1, z2, z3⟩ := hE10.2 i2 m2 es2 a b
            exact ⟨z1, z2, z3.same tkA⟩
          · rw [List.getElem?_append_right (by omega)] at a
            rw [List.getElem?_append_right (by rw [hE10.1]; omega), hE10.1] at b
            have hz : i2 - nms.length = 0 := by
              have := (List.getElem?_eq_some_iff.mp a).1
              simpa using this
            rw [hz] at a b
            cases a
            cases b
            exact ⟨am, g2, g3.same tkA⟩
        · rw [List.map_append]
          exact hG.hang hS.P hq1 hq2 g4 hy
        · rw [List.length_append, List.length_singleton]
          omega
        · rw [List.length_append, List.length_singleton]
          omega
        · rw [List.length_append, List.length_singleton]
          omega
end
end K1

set_option Elab.async false
set_option linter.all false
set_option maxRecDepth 100000
set_option maxHeartbeats 1000000
namespace K1
open PySem PySem.Spec PyProof.Rows L2
abbrev sErr : Stmt := topS 54
theorem scErr : FnScope ["work"] ["work"] (defScope sErr) := ⟨rfl, rfl, rfl, by decide +kernel, rfl, by decide +kernel, by decide +kernel⟩
/-- which error a clause takes -/
structure Exm (K : PySem.W.Frag) (CS CP : Addr) : Prop where
  ss : PySem.W.exmOne K (.ref CS) (.ref CS) = some true
  ps : PySem.W.exmOne K (.ref CP) (.ref CS) = some false
  pp : PySem.W.exmOne K (.ref CP) (.ref CP) = some true
/-- what _law_error makes of its lambda's reading -/
def TErr (CS CP : Addr) : (XK → Hp → VK → Prop) → Hp → VK → Prop := fun tl H Q =>
  tl (fun cls d H' => d = none ∧ ((cls = .ref CS ∧ Q (.str "BadSheet") H') ∨ (cls = .ref CP ∧ Q (.str "BadPiece") H'))) H (fun _ H' => Q .non H')
theorem err_gives {X : Cx} {g CS CP : Addr} {cdg : Value} {q : Str} (gS : X.mg "BadSheet" = some (.ref CS)) (gP : X.mg "BadPiece" = some (.ref CP))
    (E : Exm X.K CS CP) : LamX.GivesTo X ["work"] "_law_error" (defScope sErr) g cdg (defBody sErr) "work" q (TErr CS CP) := by
  intro f c' s H Q tl act hcode h
  refine ⟨_, pss_one (ps_try_cl (X := (cxOf C8.CX0 X.prog X.w X.K X.mg X.base ["work"] "_law_error" (defScope sErr) g cdg X.A X.stack s H C8.E0).nox)
      (tb := fun W D σ H => ∃ Ech : XK, (∀ cls d σ' H', Ech cls d H' → W cls d σ' H') ∧ σ[0]? = some (some (.ref f)) ∧ H c' = some (LamX.CodeO c' q) ∧ tl Ech H (fun _ H' => D.nx σ H'))
      (pss_one (ps_ret pe_non)) scErr.nd rfl rfl takes0 (fun W pn xe tk _ => ?_)
      (Cl.plain (c := .ref CS) ⟨rfl, by decide, .inl gS⟩ (fun a oe cls d pn _ _ => pss_one (ps_ret pe_str))
        (Cl.plain (c := .ref CP) ⟨rfl, by decide, .inl gP⟩ (fun a oe cls d pn _ _ => pss_one (ps_ret pe_str)) Cl.done))), ?_⟩
  · refine ⟨fun pins s' σ H' D I h' => ?_⟩
    obtain ⟨Ech, hW, h1, h2, h3⟩ := h'
    exact (pss_one (ps_expr (act W pn xe Ech _ _ tk hW))).run pins s' σ H' D I ⟨h1, h2, h3⟩
  · refine ⟨_, fun cls d σ' H' hE => ?_, rfl, hcode, h⟩
    obtain ⟨rfl, ⟨rfl, q⟩ | ⟨rfl, q⟩⟩ := hE
    · exact ⟨true, E.ss, fun _ a _ => q, fun z => Bool.noConfusion z⟩
    · exact ⟨false, E.ps, fun z => Bool.noConfusion z, fun _ => ⟨true, E.pp, fun _ a _ => q, fun z => Bool.noConfusion z⟩⟩
end K1

set_option Elab.async false
set_option linter.all false
set_option maxRecDepth 100000
set_option maxHeartbeats 1000000
namespace K1
open PySem PySem.Spec PyProof.Rows L2
open PySem.W (dataLe dataLt)
/-- a link that fits is one -/
theorem LinkOk.plb {H : Hp} {ps : List (Str × Str)} {bs : List (Str × Addr)} {nms : List Str} {ess : List (List Str)} {N : Nat} {p : Pl × Pl} (hE : EssV H ps bs nms ess) (h : LinkOk ps ess p) (hN : nms.length ≤ N) :
    plB N (.int p.1.1) (.int p.1.2) = true ∧ plB N (.int p.2.1) (.int p.2.2) = true ∧ HT.lexLt [p.1.1, p.1.2] [p.2.1, p.2.2] = true := by
  obtain ⟨i1, j1, i2, j2, e1, e2, x1, x2, rfl, h1, h2, k1, k2, _, hl⟩ := h
  have a1 := (List.getElem?_eq_some_iff.mp h1).1
  have a2 := (List.getElem?_eq_some_iff.mp h2).1
  have b1 := (List.getElem?_eq_some_iff.mp k1).1
  have b2 := (List.getElem?_eq_some_iff.mp k2).1
  have c1 := hE.four _ (List.mem_of_getElem? h1)
  have c2 := hE.four _ (List.mem_of_getElem? h2)
  have d := hE.1
  have f : ∀ i j : Nat, i < N → j < 4 → plB N (.int (i : Int)) (.int (j : Int)) = true := fun i j hi hj => by
    simp only [plB, Bool.and_eq_true, decide_eq_true_eq]
    omega
  exact ⟨f i1 j1 (by omega) (by omega), f i2 j2 (by omega) (by omega), hl⟩
theorem LkF.good {H : Hp} {x : V} {o1 o2 : Addr} {p : Pl × Pl} {N : Nat} (h : LkF H x o1 o2 p) (h1 : plB N (.int p.1.1) (.int p.1.2) = true) (h2 : plB N (.int p.2.1) (.int p.2.2) = true) : LkV H N x (HT.lexLt [p.1.1, p.1.2] [p.2.1, p.2.2]) := by
  obtain ⟨t, rfl, a, b, c⟩ := h
  exact .good a b c h1 h2
section
variable {H : Hp} {ps : List (Str × Str)} {bs : List (Str × Addr)} {M BT LT : Addr} {nms : List Str} {ess : List (List Str)} {ys : List Lk}
theorem PcD.lkv (h : PcD H ps bs M BT LT nms ess ys) {N : Nat} (hN : nms.length ≤ N) {y : Lk} (hy : y ∈ ys) : LkV H N (lkR y) true := by
  obtain ⟨o1, o2, z⟩ := h.lk y hy
  obtain ⟨p1, p2, hl⟩ := (h.gr.ok y.2 (List.mem_map.mpr ⟨y, hy, rfl⟩)).plb h.es hN
  have := z.good p1 p2
  rw [hl] at this
  exact this
theorem ltL_of {p q : Pl × Pl} (ne : p.1 ≠ q.1) (h : dataLt (lkD q) (lkD p) = false) : ltL p q = true := by
  unfold lkD plD at h
  rw [PySem.W.dataLt_pair (by simp [PySem.W.alike, PySem.W.alikeAll]) (by simp [PySem.W.alike, PySem.W.alikeAll])] at h
  have e1 : PyData.eqv (.tuple [.int q.1.1, .int q.1.2]) (.tuple [.int p.1.1, .int p.1.2]) = false := by
    have := plD_eqv q.1 p.1
    unfold plD at this
    rw [this]
    exact decide_eq_false fun z => ne z.symm
  rw [e1, if_neg Bool.false_ne_true, PySem.W.dataLt_ii] at h
  have h := of_decide_eq_false h
  unfold ltL
  rw [if_neg (fun z => ne (by have := List.cons.inj z; exact Prod.ext this.1 (List.cons.inj this.2).1)), lex2]
  refine decide_eq_true ?_
  have : ¬ (p.1.1 = q.1.1 ∧ p.1.2 = q.1.2) := fun z => ne (Prod.ext z.1 z.2)
  omega
theorem PcD.asc (h : PcD H ps bs M BT LT nms ess ys) : ascL (ys.map (·.2)) = true := by
  unfold ascL
  rw [List.all_map, List.all_eq_true]
  intro i hi
  have hi := List.mem_range.mp hi
  rw [List.length_map] at hi
  show ltAt (ys.map (·.2)) i = true
  unfold ltAt
  rw [List.getElem?_map, List.getElem?_map, List.getElem?_eq_getElem (show i < ys.length by omega), List.getElem?_eq_getElem (show i + 1 < ys.length by omega)]
  show ltL ys[i].2 ys[i + 1].2 = true
  refine ltL_of (fun e => ?_) ?_
  · have nd := h.gr.nd
    have lp := plsOf_len (ys.map (·.2))
    rw [List.length_map] at lp
    have g : ∀ (ls : List (Pl × Pl)) (j : Nat) p, ls[j]? = some p → (plsOf ls)[2 * j]? = some p.1 := by
      intro ls
      induction ls with
      | nil => intro j p hp; simp at hp
      | cons a r ih =>
        intro j p hp
        have e : plsOf (a :: r) = a.1 :: a.2 :: plsOf r := by unfold plsOf; rw [List.flatMap_cons]; rfl
        rw [e]
        cases j with
        | zero => cases hp; rfl
        | succ j =>
          rw [show 2 * (j + 1) = 2 * j + 1 + 1 by omega, List.getElem?_cons_succ, List.getElem?_cons_succ]
          exact ih j p hp
    have g1 := g (ys.map (·.2)) i ys[i].2 (by rw [List.getElem?_map, List.getElem?_eq_getElem (show i < ys.length by omega)]; rfl)
    have g2 := g (ys.map (·.2)) (i + 1) ys[i + 1].2 (by rw [List.getElem?_map, List.getElem?_eq_getElem (show i + 1 < ys.length by omega)]; rfl)
    rw [← e] at g2
    obtain ⟨l1, v1⟩ := List.getElem?_eq_some_iff.mp g1
    obtain ⟨l2, v2⟩ := List.getElem?_eq_some_iff.mp g2
    have := List.pairwise_iff_getElem.mp nd (2 * i) (2 * (i + 1)) l1 l2 (by omega)
    exact this (by rw [v1, v2])
  · have := List.pairwise_iff_getElem.mp h.pw i (i + 1) (by omega) (by omega) (by omega)
    rw [PySem.W.dataLe_eq] at this
    have : (!dataLt (lkE ys[i + 1]) (lkE ys[i])) = true := this
    simpa [lkE] using this
theorem PcD.okl (h : PcD H ps bs M BT LT nms ess ys) : okL (ys.map (·.2)) = true := by
  unfold okL
  rw [h.asc, decide_eq_true h.gr.nd]
  rfl
theorem PcD.links (h : PcD H ps bs M BT LT nms ess ys) {N : Nat} (hN : nms.length ≤ N) : LinksV H N (ys.map lkR) true := by
  refine ⟨by rw [List.length_map]; have := h.l14; omega, ys.map fun _ => true, by rw [List.length_map, List.length_map], fun i x b a c => ?_, .inr ⟨by rw [List.all_map, List.all_eq_true]; exact fun _ _ => rfl, ys.map (·.2), by rw [List.length_map, List.length_map], h.lk.at, h.okl.symm⟩⟩
  rw [List.getElem?_map] at a c
  cases hy : ys[i]? with
  | none => rw [hy] at a; cases a
  | some y =>
    rw [hy] at a c
    cases a
    cases c
    exact h.lkv hN (List.mem_of_getElem? hy)
/-- one more, that is no link -/
theorem PcD.bad (h : PcD H ps bs M BT LT nms ess ys) {N : Nat} (hN : nms.length ≤ N) {v : V} (hv : LkV H N v false) : LinksV H N (ys.map lkR ++ [v]) false := by
  refine ⟨by rw [List.length_append, List.length_map]; have := h.l14; show _ + 1 ≤ 200; omega, (ys.map fun _ => true) ++ [false], by rw [List.length_append, List.length_append, List.length_map, List.length_map]; rfl, fun i x b a c => ?_, .inl ⟨?_, rfl⟩⟩
  · by_cases hi : i < ys.length
    · rw [List.getElem?_append_left (by rw [List.length_map]; exact hi), List.getElem?_map, List.getElem?_eq_getElem hi] at a c
      cases a
      cases c
      exact h.lkv hN (List.getElem_mem hi)
    · rw [List.getElem?_append_right (by rw [List.length_map]; omega), List.length_map] at a c
      obtain ⟨l, _⟩ := List.getElem?_eq_some_iff.mp a
      have hz : i - ys.length = 0 := by simpa using l
      rw [hz] at a c
      cases a
      cases c
      exact hv
  · rw [List.all_append]
    simp
/-- one more, that is there already -/
theorem PcD.dup (h : PcD H ps bs M BT LT nms ess ys) {N : Nat} (hN : nms.length ≤ N) {y : Lk} (hy : y ∈ ys) : LinksV H N (ys.map lkR ++ [lkR y]) false := by
  have hm : ys.map lkR ++ [lkR y] = (ys ++ [y]).map lkR := by rw [List.map_append]; rfl
  rw [hm]
  have hin : ∀ z ∈ ys ++ [y], z ∈ ys := fun z hz => by
    rcases List.mem_append.mp hz with hz | hz
    · exact hz
    · rw [List.mem_singleton.mp hz]; exact hy
  have hlk : LkAll H (ys ++ [y]) := fun z hz => h.lk z (hin z hz)
  refine ⟨by rw [List.length_map, List.length_append]; have := h.l14; show _ + 1 ≤ 200; omega, (ys ++ [y]).map fun _ => true, by rw [List.length_map, List.length_map], fun i x b a c => ?_, .inr ⟨by rw [List.all_map, List.all_eq_true]; exact fun _ _ => rfl, (ys ++ [y]).map (·.2), by rw [List.length_map, List.length_map], hlk.at, ?_⟩⟩
  · rw [List.getElem?_map] at a c
    cases hy : (ys ++ [y])[i]? with
    | none => rw [hy] at a; cases a
    | some z =>
      rw [hy] at a c
      cases a
      cases c
      exact h.lkv hN (hin z (List.mem_of_getElem? hy))
  · unfold okL
    have : ¬ (plsOf ((ys ++ [y]).map (·.2))).Nodup := fun nd => by
      rw [List.map_append] at nd
      have e : plsOf (ys.map (·.2) ++ [y].map (·.2)) = plsOf (ys.map (·.2)) ++ plsOf ([y].map (·.2)) := by unfold plsOf; rw [List.flatMap_append]
      rw [e] at nd
      have := (List.nodup_append.mp nd).2.2 y.2.1 (mem_plsOf.mpr ⟨y.2, List.mem_map.mpr ⟨y, hy, rfl⟩, .inl rfl⟩) y.2.1 (by simp [plsOf])
      exact this rfl
    rw [decide_eq_false this, Bool.and_false]
/-- the copies that a link joins -/
def copR (y : Lk) : Nat × Nat := (y.2.1.1.toNat, y.2.2.1.toNat)
theorem PcD.two (h : PcD H ps bs M BT LT nms ess ys) {y : Lk} (hy : y ∈ ys) : LkAt H (lkR y) (copR y) ∧ (copR y).1 < nms.length ∧ (copR y).2 < nms.length ∧ y.2.1.1 = ((copR y).1 : Int) ∧ y.2.2.1 = ((copR y).2 : Int) := by
  obtain ⟨o1, o2, t, e, h1, h2, h3⟩ := h.lk y hy
  obtain ⟨i1, j1, i2, j2, e1, e2, x1, x2, ey, g1, g2, _⟩ := h.gr.ok y.2 (List.mem_map.mpr ⟨y, hy, rfl⟩)
  have a1 := (List.getElem?_eq_some_iff.mp g1).1
  have a2 := (List.getElem?_eq_some_iff.mp g2).1
  rw [h.es.1] at a1 a2
  unfold copR
  rw [ey] at h2 h3 ⊢
  refine ⟨⟨t, o1, o2, (j1 : Int), (j2 : Int), e, h1, h2, h3⟩, ?_, ?_, rfl, rfl⟩
  · show ((i1 : Int)).toNat < _
    omega
  · show ((i2 : Int)).toNat < _
    omega
theorem PcD.reach (h : PcD H ps bs M BT LT nms ess ys) {near : List (List Nat)} (hr : Rows nms.length (ys.map copR) near) : ∀ v < nms.length, Reach near 0 v := by
  have key : ∀ v, Rc (ys.map (·.2)) v → v < nms.length → Reach near 0 v := by
    intro v r
    induction r with
    | zero => intro _; exact .me
    | @step u v p hu hp e ih =>
      intro hv
      obtain ⟨y, hy, rfl⟩ := List.mem_map.mp hp
      obtain ⟨_, c1, c2, c3, c4⟩ := h.two hy
      have hcop : copR y ∈ ys.map copR := List.mem_map.mpr ⟨y, hy, rfl⟩
      have step : ∀ u v : Nat, u < nms.length → Reach near 0 u → ((u, v) ∈ ys.map copR ∨ (v, u) ∈ ys.map copR) → Reach near 0 v := fun u v hu ru hm => by
        obtain ⟨row, hrow⟩ : ∃ row, near[u]? = some row := ⟨_, List.getElem?_eq_getElem (by rw [hr.1]; exact hu)⟩
        exact .step ru hrow ((hr.2 u row hrow v).mpr hm)
      rcases e with ⟨e1, e2⟩ | ⟨e1, e2⟩
      · have q1 : (copR y).1 = u := by omega
        have q2 : (copR y).2 = v := by omega
        refine step u v (by omega) (ih (by omega)) (.inl ?_)
        rw [← q1, ← q2]
        exact hcop
      · have q1 : (copR y).1 = v := by omega
        have q2 : (copR y).2 = u := by omega
        refine step u v (by omega) (ih (by omega)) (.inr ?_)
        rw [← q1, ← q2]
        exact hcop
  intro v hv
  exact key v (h.gr.cn v (by rw [h.es.1]; exact hv)) hv
theorem PcD.kat (h : PcD H ps bs M BT LT nms ess ys) : ∀ (i : Nat) x p, (ys.map lkR)[i]? = some x → (ys.map copR)[i]? = some p → LkAt H x p := fun i x p a b => by
  rw [List.getElem?_map] at a b
  cases hy : ys[i]? with
  | none => rw [hy] at a; cases a
  | some y =>
    rw [hy] at a b
    cases a
    cases b
    exact (h.two (List.mem_of_getElem? hy)).1
theorem PcD.ln (h : PcD H ps bs M BT LT nms ess ys) {a : Addr} (ha : Sq2 H a (ys.map lkR)) : LnV H nms.length (.ref a) true :=
  .good (ls := ys.map copR) ha (h.links (Nat.le_refl _)) (by rw [List.length_map, List.length_map]) h.kat (fun p hp => by
    obtain ⟨y, hy, rfl⟩ := List.mem_map.mp hp
    exact ⟨(h.two hy).2.1, (h.two hy).2.2.1⟩) fun near hr => ⟨fun _ => h.reach hr, fun _ => rfl⟩
/-- with more copies they are not connected -/
theorem PcD.ln2 (h : PcD H ps bs M BT LT nms ess ys) {N : Nat} (hN : nms.length < N) : LnV H N (.ref LT) false := by
  refine .good (ls := ys.map copR) (.inr h.l) (h.links (Nat.le_of_lt hN)) (by rw [List.length_map, List.length_map]) h.kat (fun p hp => ?_) fun near hr => ⟨fun z => (nomatch z), fun hall => ?_⟩
  · obtain ⟨y, hy, rfl⟩ := List.mem_map.mp hp
    have := (h.two hy).2.1
    have := (h.two hy).2.2.1
    exact ⟨by omega, by omega⟩
  · have key : ∀ v, Reach near 0 v → v < nms.length := by
      intro v r
      induction r with
      | me => exact h.n1
      | @step u v row hu hrow hv ih =>
        rcases (hr.2 u row hrow v).mp hv with hm | hm
        · obtain ⟨y, hy, e⟩ := List.mem_map.mp hm
          have := (h.two hy).2.2.1
          rw [e] at this
          exact this
        · obtain ⟨y, hy, e⟩ := List.mem_map.mp hm
          have := (h.two hy).2.1
          rw [e] at this
          exact this
    exact absurd (key _ (hall _ hN)) (Nat.lt_irrefl _)
theorem PcD.wd (h : PcD H ps bs M BT LT nms ess ys) (hw : ∀ p ∈ bs, IsW p.1) : ∀ m ∈ nms, wordB m = true := fun m hm => by
  obtain ⟨i, hi⟩ := List.getElem?_of_mem hm
  have hl := (List.getElem?_eq_some_iff.mp hi).1
  obtain ⟨t, ht, _⟩ := h.es.2 i m _ hi (List.getElem?_eq_getElem (by rw [h.es.1]; exact hl))
  exact (hw _ (look_mem ht)).b
theorem PcD.cp (h : PcD H ps bs M BT LT nms ess ys) (hw : ∀ p ∈ bs, IsW p.1) {a : Addr} (ha : Sq2 H a (nms.map V.str)) : CpV H (.ref a) true := by
  rw [← cpB_strs (h.wd hw) h.n1 (by have := h.n7; omega)]
  rcases ha with ha | ha
  · exact .lst ha (kinds_strs (h.wd hw))
  · exact .tup ha (kinds_strs (h.wd hw))
end
end K1

set_option Elab.async false
set_option linter.all false
set_option maxRecDepth 100000
set_option maxHeartbeats 1000000
namespace K1
open PySem PySem.Spec PyProof.Rows L2
theorem PcD.same {H H' : Hp} {ps : List (Str × Str)} {bs : List (Str × Addr)} {M BT LT : Addr} {nms : List Str} {ess : List (List Str)} {ys : List Lk} (h : PcD H ps bs M BT LT nms ess ys) (e : Same H H') : PcD H' ps bs M BT LT nms ess ys :=
  ⟨e _ _ h.m, e _ _ h.b, e _ _ h.l, h.lk.tk (same_tupK e), h.es.same (same_tupK e), h.gr, h.pw, h.n1, h.n7, h.l14⟩
/-- what is seen of a heap, where new objects are always seen -/
structure Vw (ok : Hp → Prop) (d : Hp → Hp) : Prop where
  al : ∀ H a o, ok H → H a = none → ok (upd H a o) ∧ Same (d H) (d (upd H a o)) ∧ d (upd H a o) a = some o
  sub : ∀ H, ok H → Same (d H) H
theorem Vw.all : Vw (fun _ => True) (fun H => H) := ⟨fun H a o _ n => ⟨True.intro, same_upd n, upd_same⟩, fun _ _ => Same.refl _⟩
/-- a heap without one address -/
def del (H : Hp) (F : Addr) : Hp := fun b => if b = F then none else H b
theorem del_ne {H : Hp} {F c : Addr} (n : c ≠ F) : del H F c = H c := if_neg n
theorem del_upd {H : Hp} {F : Addr} {o : HO} : del (upd H F o) F = del H F := funext fun b => by
  unfold del
  by_cases h : b = F
  · rw [if_pos h, if_pos h]
  · rw [if_neg h, if_neg h, upd_ne h]
theorem del_free {H : Hp} {F : Addr} (n : H F = none) : del H F = H := funext fun b => by
  unfold del
  by_cases h : b = F
  · rw [if_pos h, h, n]
  · rw [if_neg h]
theorem del_sub {H : Hp} {F : Addr} : Same (del H F) H := fun b o e => by
  unfold del at e
  by_cases h : b = F
  · rw [if_pos h] at e; cases e
  · rw [if_neg h] at e; exact e
theorem Vw.but (F : Addr) : Vw (fun H => ∃ o, H F = some o) (fun H => del H F) := ⟨fun H a o ⟨x, hx⟩ n => by
  have nF : a ≠ F := fun z => by rw [z, hx] at n; cases n
  refine ⟨⟨x, by rw [upd_ne nF.symm]; exact hx⟩, fun b u e => ?_, by rw [del_ne nF]; exact upd_same⟩
  have nb : b ≠ F := fun z => by rw [z] at e; unfold del at e; rw [if_pos rfl] at e; cases e
  rw [del_ne nb] at e ⊢
  exact same_upd n b u e, fun _ _ => del_sub⟩
def Mo {α : Type} (R : Hp → α → Prop) : Prop := ∀ H H' x, Same H H' → R H x → R H' x
/-- what a reading gives -/
structure Gv (ok : Hp → Prop) (d : Hp → Hp) (H0 : Hp) (σ : L2.St) (t : TE) (R : Hp → V → Prop) : Prop where
  mo : Mo R
  go : ∀ H (Q : VK), ok H → Same H0 (d H) → (∀ v H', ok H' → Same H H' → Same (d H) (d H') → R (d H') v → Q v H') → t σ H Q
structure Gvs (ok : Hp → Prop) (d : Hp → Hp) (H0 : Hp) (σ : L2.St) (t : TA) (n : Nat) (R : Hp → List V → Prop) : Prop where
  mo : Mo R
  len : ∀ H xs, R H xs → xs.length = n
  go : ∀ H (Q : List V → Hp → Prop), ok H → Same H0 (d H) → (∀ v H', ok H' → Same H H' → Same (d H) (d H') → R (d H') v → Q v H') → t σ H Q
/-- a value that the class takes for no piece -/
def BadP (H : Hp) (x y : V) : Prop := CpV H x false ∨ (CpV H x true ∧ ∃ (Bk : Addr) (bs : List V), x = .ref Bk ∧ Sq2 H Bk bs ∧ 1 ≤ bs.length ∧ bs.length ≤ 200 ∧ LnV H bs.length y false)
theorem BadP.same {H H' : Hp} {x y : V} (h : BadP H x y) (e : Same H H') : BadP H' x y := by
  rcases h with h | ⟨h, Bk, bs, rfl, h1, h2, h3, h4⟩
  · exact .inl (h.same e)
  · exact .inr ⟨h.same e, Bk, bs, rfl, h1.same e, h2, h3, h4.same e⟩
def BPair (H : Hp) (v : V) : Prop := ∃ p x y, v = .ref p ∧ H p = some (.lst [x, y]) ∧ BadP H x y
theorem BPair.mo : Mo BPair := fun H H' v e ⟨p, x, y, a, b, c⟩ => ⟨p, x, y, a, e _ _ b, c.same e⟩
def AllB (n : Nat) (H : Hp) (xs : List V) : Prop := xs.length = n ∧ ∀ x ∈ xs, BPair H x
theorem eqMo {v : V} : Mo fun (_ : Hp) (x : V) => x = v := fun _ _ _ _ h => h
section
variable {ok : Hp → Prop} {d : Hp → Hp} {H0 : Hp} {σ : L2.St}
theorem Gv.c (v : V) : Gv ok d H0 σ (tC v) (fun _ x => x = v) := ⟨eqMo, fun H Q o s k => k v H o (Same.refl _) (Same.refl _) rfl⟩
theorem Gv.var {i : Nat} {v : V} (h : σ[i]? = some (some v)) : Gv ok d H0 σ (tVar i) (fun _ x => x = v) := ⟨eqMo, fun H Q o s k => ⟨v, h, k v H o (Same.refl _) (Same.refl _) rfl⟩⟩
theorem Gv.neg {i : Int} : Gv ok d H0 σ (tUn (rU fun i => .int (-i)) (tC (.int i))) (fun _ x => x = .int (-i)) := ⟨eqMo, fun H Q o s k => ⟨i, rfl, k _ H o (Same.refl _) (Same.refl _) rfl⟩⟩
theorem Gv.mono {t : TE} {R R' : Hp → V → Prop} (h : Gv ok d H0 σ t R) (m : Mo R') (f : ∀ H v, Same H0 H → R H v → R' H v) : Gv ok d H0 σ t R' :=
  ⟨m, fun H Q o s k => h.go H Q o s fun v H' o' s' d' r => k v H' o' s' d' (f _ _ (s.trans d') r)⟩
theorem Gv.l2 (W : Vw ok d) {t u : TE} {R S : Hp → V → Prop} (h : Gv ok d H0 σ t R) (g : Gv ok d H0 σ u S) : Gv ok d H0 σ (tLst (tCons t (tCons u tNil))) (fun H v => ∃ a x y, v = .ref a ∧ H a = some (.lst [x, y]) ∧ R H x ∧ S H y) :=
  ⟨fun H H' v e ⟨a, x, y, z, b, r, s⟩ => ⟨a, x, y, z, e _ _ b, h.mo _ _ _ e r, g.mo _ _ _ e s⟩, fun H Q o s k => h.go H _ o s fun x H1 o1 s1 d1 r1 => g.go H1 _ o1 (s.trans d1) fun y H2 o2 s2 d2 r2 => ⟨Nat.le_of_lt (small1000 (n := 2) (by decide)), fun p np => by
    obtain ⟨w1, w2, w3⟩ := W.al H2 p (.lst [x, y]) o2 np
    exact k _ _ w1 ((s1.trans s2).trans (same_upd np)) ((d1.trans d2).trans w2) ⟨p, x, y, rfl, w3, h.mo _ _ _ (d2.trans w2) r1, g.mo _ _ _ w2 r2⟩⟩⟩
theorem Gv.t2 (W : Vw ok d) {t u : TE} {R S : Hp → V → Prop} (h : Gv ok d H0 σ t R) (g : Gv ok d H0 σ u S) : Gv ok d H0 σ (tTup (tCons t (tCons u tNil))) (fun H v => ∃ a x y, v = .ref a ∧ H a = some (.tup [x, y]) ∧ R H x ∧ S H y) :=
  ⟨fun H H' v e ⟨a, x, y, z, b, r, s⟩ => ⟨a, x, y, z, e _ _ b, h.mo _ _ _ e r, g.mo _ _ _ e s⟩, fun H Q o s k => h.go H _ o s fun x H1 o1 s1 d1 r1 => g.go H1 _ o1 (s.trans d1) fun y H2 o2 s2 d2 r2 => ⟨Nat.le_of_lt (small1000 (n := 2) (by decide)), fun p np => by
    obtain ⟨w1, w2, w3⟩ := W.al H2 p (.tup [x, y]) o2 np
    exact k _ _ w1 ((s1.trans s2).trans (same_upd np)) ((d1.trans d2).trans w2) ⟨p, x, y, rfl, w3, h.mo _ _ _ (d2.trans w2) r1, g.mo _ _ _ w2 r2⟩⟩⟩
theorem Gv.l1 (W : Vw ok d) {t : TE} {R : Hp → V → Prop} (h : Gv ok d H0 σ t R) : Gv ok d H0 σ (tLst (tCons t tNil)) (fun H v => ∃ a x, v = .ref a ∧ H a = some (.lst [x]) ∧ R H x) :=
  ⟨fun H H' v e ⟨a, x, z, b, r⟩ => ⟨a, x, z, e _ _ b, h.mo _ _ _ e r⟩, fun H Q o s k => h.go H _ o s fun x H1 o1 s1 d1 r1 => ⟨Nat.le_of_lt (small1000 (n := 1) (by decide)), fun p np => by
    obtain ⟨w1, w2, w3⟩ := W.al H1 p (.lst [x]) o1 np
    exact k _ _ w1 (s1.trans (same_upd np)) (d1.trans w2) ⟨p, x, rfl, w3, h.mo _ _ _ w2 r1⟩⟩⟩
theorem Gv.t1 (W : Vw ok d) {t : TE} {R : Hp → V → Prop} (h : Gv ok d H0 σ t R) : Gv ok d H0 σ (tTup (tCons t tNil)) (fun H v => ∃ a x, v = .ref a ∧ H a = some (.tup [x]) ∧ R H x) :=
  ⟨fun H H' v e ⟨a, x, z, b, r⟩ => ⟨a, x, z, e _ _ b, h.mo _ _ _ e r⟩, fun H Q o s k => h.go H _ o s fun x H1 o1 s1 d1 r1 => ⟨Nat.le_of_lt (small1000 (n := 1) (by decide)), fun p np => by
    obtain ⟨w1, w2, w3⟩ := W.al H1 p (.tup [x]) o1 np
    exact k _ _ w1 (s1.trans (same_upd np)) (d1.trans w2) ⟨p, x, rfl, w3, h.mo _ _ _ w2 r1⟩⟩⟩
theorem Gv.l0 (W : Vw ok d) : Gv ok d H0 σ (tLst tNil) (fun H v => ∃ a, v = .ref a ∧ H a = some (.lst [])) :=
  ⟨fun H H' v e ⟨a, z, b⟩ => ⟨a, z, e _ _ b⟩, fun H Q o s k => ⟨Nat.zero_le _, fun p np => by
    obtain ⟨w1, w2, w3⟩ := W.al H p (.lst []) o np
    exact k _ _ w1 (same_upd np) w2 ⟨p, rfl, w3⟩⟩⟩
theorem Gv.t0 (W : Vw ok d) : Gv ok d H0 σ (tTup tNil) (fun H v => ∃ a, v = .ref a ∧ H a = some (.tup [])) :=
  ⟨fun H H' v e ⟨a, z, b⟩ => ⟨a, z, e _ _ b⟩, fun H Q o s k => ⟨Nat.zero_le _, fun p np => by
    obtain ⟨w1, w2, w3⟩ := W.al H p (.tup []) o np
    exact k _ _ w1 (same_upd np) w2 ⟨p, rfl, w3⟩⟩⟩
/-- a pair that is no piece -/
theorem Gv.pair (W : Vw ok d) {t u : TE} {R S : Hp → V → Prop} (h : Gv ok d H0 σ t R) (g : Gv ok d H0 σ u S) (f : ∀ H x y, Same H0 H → R H x → S H y → BadP H x y) : Gv ok d H0 σ (tLst (tCons t (tCons u tNil))) BPair :=
  (Gv.l2 W h g).mono BPair.mo fun H v e ⟨a, x, y, z, b, r, s⟩ => ⟨a, x, y, z, b, f H x y e r s⟩
theorem Gvs.nil : Gvs ok d H0 σ tNil 0 (AllB 0) := ⟨fun H H' x e h => ⟨h.1, fun v hv => BPair.mo _ _ _ e (h.2 v hv)⟩, fun H xs h => h.1, fun H Q o s k => k [] H o (Same.refl _) (Same.refl _) ⟨rfl, fun x hx => nomatch hx⟩⟩
theorem Gvs.cons {t : TE} {u : TA} {n : Nat} (h : Gv ok d H0 σ t BPair) (g : Gvs ok d H0 σ u n (AllB n)) : Gvs ok d H0 σ (tCons t u) (n + 1) (AllB (n + 1)) :=
  ⟨fun H H' x e h => ⟨h.1, fun v hv => BPair.mo _ _ _ e (h.2 v hv)⟩, fun H xs h => h.1, fun H Q o s k => h.go H _ o s fun x H1 o1 s1 d1 r1 => g.go H1 _ o1 (s.trans d1) fun xs H2 o2 s2 d2 r2 =>
    k (x :: xs) H2 o2 (s1.trans s2) (d1.trans d2) ⟨by rw [List.length_cons, r2.1], fun v hv => by
      rcases List.mem_cons.mp hv with rfl | hv
      · exact BPair.mo _ _ _ d2 r1
      · exact r2.2 v hv⟩⟩
theorem Gvs.lst (W : Vw ok d) {u : TA} {n : Nat} (g : Gvs ok d H0 σ u n (AllB n)) (hn : n ≤ 100) : Gv ok d H0 σ (tLst u) (fun H v => ∃ a xs, v = .ref a ∧ H a = some (.lst xs) ∧ AllB n H xs) :=
  ⟨fun H H' v e ⟨a, x, z, b, r⟩ => ⟨a, x, z, e _ _ b, g.mo _ _ _ e r⟩, fun H Q o s k => g.go H _ o s fun x H1 o1 s1 d1 r1 => ⟨Nat.le_of_lt (small1000 (by rw [r1.1]; omega)), fun p np => by
    obtain ⟨w1, w2, w3⟩ := W.al H1 p (.lst x) o1 np
    exact k _ _ w1 (s1.trans (same_upd np)) (d1.trans w2) ⟨p, x, rfl, w3, g.mo _ _ _ w2 r1⟩⟩⟩
variable {K : PySem.W.Frag}
theorem Gv.cat (W : Vw ok d) {i : Nat} {a : Addr} {xs : List V} (h : σ[i]? = some (some (.ref a))) (ha : H0 a = some (.tup xs)) (hx : xs ≠ []) (hl : xs.length ≤ 100) : Gv ok d H0 σ (tOp (rCatA K) (tVar i) (tVar i)) (fun H v => ∃ c, v = .ref c ∧ H c = some (.tup (xs ++ xs))) :=
  ⟨fun H H' v e ⟨c, z, b⟩ => ⟨c, z, e _ _ b⟩, fun H Q o s k => ⟨_, h, _, h, a, a, xs, xs, rfl, rfl, SqT.of (W.sub H o _ _ (s _ _ ha)), SqT.of (W.sub H o _ _ (s _ _ ha)), Nat.le_of_lt (small1000 (by omega)), fun z => absurd z hx, fun _ z => absurd z hx, fun _ _ p np => by
    obtain ⟨w1, w2, w3⟩ := W.al H p (.tup (xs ++ xs)) o np
    exact k _ _ w1 (same_upd np) w2 ⟨p, rfl, w3⟩⟩⟩
theorem Gv.len (W : Vw ok d) {i : Nat} {a : Addr} {xs : List V} (h : σ[i]? = some (some (.ref a))) (ha : H0 a = some (.tup xs)) :
    Gv ok d H0 σ (tCB (fun vs H Q => ∃ p xs, vs = [V.ref p] ∧ Sq2 H p xs ∧ Q (V.int (xs.length : Nat)) H) (tCons (tVar i) tNil)) (fun _ v => v = .int (xs.length : Nat)) :=
  ⟨eqMo, fun H Q o s k => ⟨_, h, a, xs, rfl, .inr (W.sub H o _ _ (s _ _ ha)), k _ H o (Same.refl _) (Same.refl _) rfl⟩⟩
theorem call_list2 {X : Cx} : CallR X (.type "list") (fun vs H Q => ∃ (p : Addr) (ys : List V), vs = [V.ref p] ∧ Sq2 H p ys ∧ ∀ l, H l = none → Q (.ref l) (upd H l (.lst ys))) := by
  intro pins s σ H xs us Q I r h
  obtain ⟨p, ys, e, hq, q⟩ := h
  exact call_list_of pins s σ H xs us Q I r ⟨p, ys, e, hq.elim (fun z => .inl (SqL.of z)) fun z => .inr (SqT.of z), q⟩
theorem Gv.list (W : Vw ok d) {i : Nat} {a : Addr} {xs : List V} (h : σ[i]? = some (some (.ref a))) (ha : H0 a = some (.tup xs)) :
    Gv ok d H0 σ (tCB (fun vs H Q => ∃ (p : Addr) (ys : List V), vs = [V.ref p] ∧ Sq2 H p ys ∧ ∀ l, H l = none → Q (.ref l) (upd H l (.lst ys))) (tCons (tVar i) tNil)) (fun H v => ∃ c, v = .ref c ∧ H c = some (.lst xs)) :=
  ⟨fun H H' v e ⟨c, z, b⟩ => ⟨c, z, e _ _ b⟩, fun H Q o s k => ⟨_, h, a, xs, rfl, .inr (W.sub H o _ _ (s _ _ ha)), fun p np => by
    obtain ⟨w1, w2, w3⟩ := W.al H p (.lst xs) o np
    exact k _ _ w1 (same_upd np) w2 ⟨p, rfl, w3⟩⟩⟩
theorem Gv.catL (W : Vw ok d) {t u : TE} {xs : List V} {R : Hp → V → Prop} (h : Gv ok d H0 σ t (fun H v => ∃ c, v = .ref c ∧ H c = some (.lst xs))) (g : Gv ok d H0 σ u (fun H v => ∃ a x, v = .ref a ∧ H a = some (.lst [x]) ∧ R H x)) (m : Mo R) (hl : xs.length ≤ 100) :
    Gv ok d H0 σ (tOp rCat t u) (fun H v => ∃ a x, v = .ref a ∧ H a = some (.lst (xs ++ [x])) ∧ R H x) :=
  ⟨fun H H' v e ⟨a, x, z, b, r⟩ => ⟨a, x, z, e _ _ b, m _ _ _ e r⟩, fun H Q o s k => h.go H _ o s fun v1 H1 o1 s1 d1 r1 => g.go H1 _ o1 (s.trans d1) fun v2 H2 o2 s2 d2 r2 => by
    obtain ⟨c, rfl, hc⟩ := r1
    obtain ⟨a, x, rfl, ha, hr⟩ := r2
    refine ⟨c, a, xs, [x], rfl, rfl, W.sub H2 o2 _ _ (d2 _ _ hc), W.sub H2 o2 _ _ ha, Nat.le_of_lt (small1000 (by show xs.length + 1 ≤ 1000; omega)), fun p np => ?_⟩
    obtain ⟨w1, w2, w3⟩ := W.al H2 p (.lst (xs ++ [x])) o2 np
    exact k _ _ w1 ((s1.trans s2).trans (same_upd np)) ((d1.trans d2).trans w2) ⟨p, x, rfl, w3, m _ _ _ w2 hr⟩⟩
theorem Gv.last (W : Vw ok d) {i : Nat} {a : Addr} {xs : List V} {x : V} (h : σ[i]? = some (some (.ref a))) (ha : H0 a = some (.tup xs)) (hx : atI xs (-1) = some x) : Gv ok d H0 σ (tOp (rIxT K) (tVar i) (tUn (rU fun i => .int (-i)) (tC (.int 1)))) (fun _ v => v = x) :=
  ⟨eqMo, fun H Q o s k => ⟨_, h, 1, rfl, a, xs, -1, x, rfl, rfl, SqT.of (W.sub H o _ _ (s _ _ ha)), hx, k _ H o (Same.refl _) (Same.refl _) rfl⟩⟩
end
end K1

set_option Elab.async false
set_option linter.all false
set_option maxRecDepth 100000
set_option maxHeartbeats 400000
namespace K1
open PySem PySem.Spec PyProof.Rows L2
abbrev sSpoilt : Stmt := topS 55
theorem scSpoilt : FnScope ["blocks", "links", "found"] ["blocks", "links"] (defScope sSpoilt) := ⟨rfl, rfl, rfl, by decide +kernel, rfl, by decide +kernel, by decide +kernel⟩
theorem bad_a {H : Hp} {a : Addr} {y : V} (h : H a = some (.tup [.str "a"])) (l : LnV H 1 y false) : BadP H (.ref a) y :=
  .inr ⟨by
    have : cpB [Kd.str "a"] = true := by decide +kernel
    rw [← this]
    exact .tup h ⟨rfl, fun i x k p q => match i, p, q with
      | 0, p, q => by cases p; cases q; exact ⟨.str _, fun z e => by cases e; exact Nat.le_of_lt (small1000 (by decide +kernel))⟩⟩, a, [.str "a"], rfl, .inr h, by decide, by decide, l⟩
theorem bad_k {H : Hp} {a : Addr} {x y : V} {k : Kd} (h : H a = some (.lst [x])) (hx : Is H x k) (hk : ∀ z, k = .str z → z.length ≤ sizeLine) (hc : cpB [k] = false) : BadP H (.ref a) y :=
  .inl (by
    rw [← hc]
    exact .lst h ⟨rfl, fun i x k p q => match i, p, q with
      | 0, p, q => by cases p; cases q; exact ⟨hx, hk⟩⟩)
theorem ln_one {H : Hp} {n : Nat} {a : Addr} {x : V} (h : H a = some (.lst [x])) (k : LkV H n x false) : LnV H n (.ref a) false :=
  .bad (.inl h) ⟨by show 1 ≤ 200; decide, [false], rfl, fun i x b p q => match i, p, q with
    | 0, p, q => by cases p; cases q; exact k, .inl ⟨rfl, rfl⟩⟩
theorem ln_two {H : Hp} {n : Nat} {a : Addr} {x y : V} {p q : Pl × Pl} {o1 o2 o3 o4 : Addr} (h : H a = some (.lst [x, y])) (kx : LkF H x o1 o2 p) (ky : LkF H y o3 o4 q) (p1 : plB n (.int p.1.1) (.int p.1.2) = true) (p2 : plB n (.int p.2.1) (.int p.2.2) = true) (p3 : HT.lexLt [p.1.1, p.1.2] [p.2.1, p.2.2] = true)
    (q1 : plB n (.int q.1.1) (.int q.1.2) = true) (q2 : plB n (.int q.2.1) (.int q.2.2) = true) (q3 : HT.lexLt [q.1.1, q.1.2] [q.2.1, q.2.2] = true) (no : okL [p, q] = false) : LnV H n (.ref a) false := by
  have a1 := kx.good p1 p2
  have a2 := ky.good q1 q2
  rw [p3] at a1
  rw [q3] at a2
  refine .bad (.inl h) ⟨by show 2 ≤ 200; decide, [true, true], rfl, fun i z b g f => ?_, .inr ⟨rfl, [p, q], rfl, fun i z b g f => ?_, no.symm⟩⟩
  · match i, g, f with
    | 0, g, f => cases g; cases f; exact a1
    | 1, g, f => cases g; cases f; exact a2
  · match i, g, f with
    | 0, g, f => cases g; cases f; exact ⟨_, _, kx⟩
    | 1, g, f => cases g; cases f; exact ⟨_, _, ky⟩
theorem of_t2 {H : Hp} {v : V} {i j : Int} (h : ∃ a x y, v = .ref a ∧ H a = some (.tup [x, y]) ∧ x = V.int i ∧ y = V.int j) : ∃ a, v = .ref a ∧ H a = some (.tup ((pK (i, j)).map kV)) := by
  obtain ⟨a, x, y, rfl, h, rfl, rfl⟩ := h
  exact ⟨a, rfl, h⟩
/-- a link of two places in a reading's answer -/
theorem of_lk {H : Hp} {v : V} {i j k l : Int} (h : ∃ a x y, v = .ref a ∧ H a = some (.tup [x, y]) ∧ (∃ a x' y', x = .ref a ∧ H a = some (.tup [x', y']) ∧ x' = V.int i ∧ y' = V.int j) ∧ (∃ a x' y', y = .ref a ∧ H a = some (.tup [x', y']) ∧ x' = V.int k ∧ y' = V.int l)) : ∃ o1 o2, LkF H v o1 o2 ((i, j), (k, l)) := by
  obtain ⟨a, x, y, rfl, h, h1, h2⟩ := h
  obtain ⟨o1, rfl, e1⟩ := of_t2 h1
  obtain ⟨o2, rfl, e2⟩ := of_t2 h2
  exact ⟨o1, o2, a, rfl, h, e1, e2⟩
theorem LkF.lex {H : Hp} {x : V} {o1 o2 : Addr} {p : Pl × Pl} {N : Nat} (h : LkF H x o1 o2 p) (h1 : plB N (.int p.1.1) (.int p.1.2) = true) (h2 : plB N (.int p.2.1) (.int p.2.2) = true) (h3 : HT.lexLt [p.1.1, p.1.2] [p.2.1, p.2.2] = false) : LkV H N x false := by
  have := h.good h1 h2
  rw [h3] at this
  exact this
theorem LkF.off {H : Hp} {x : V} {o1 o2 : Addr} {p : Pl × Pl} {N : Nat} (h : LkF H x o1 o2 p) (h2 : plB N (.int p.1.1) (.int p.1.2) = false ∨ (plB N (.int p.1.1) (.int p.1.2) = true ∧ plB N (.int p.2.1) (.int p.2.2) = false)) : LkV H N x false := by
  obtain ⟨t, rfl, a, b, c⟩ := h
  rcases h2 with h1 | ⟨h1, h2⟩
  · refine .bad1 a ?_
    rw [← h1]
    exact .two b (.int _) (.int _)
  · refine .bad2 a ?_ ?_
    · rw [← h1]
      exact .two b (.int _) (.int _)
    · rw [← h2]
      exact .two c (.int _) (.int _)
theorem Same.chg {H H' : Hp} {F : Addr} {o : HO} (s : Same H H') (n : H F = none) : Same H (upd H' F o) := fun b u e => by
  rw [upd_ne (ne_of_none e n)]
  exact s b u e
/-- the list of pairs, so far -/
structure Fd (H1 : Hp) (F : Addr) (n : Nat) (H : Hp) : Prop where
  fr : H1 F = none
  same : Same H1 (del H F)
  ex : ∃ xs, H F = some (.lst xs) ∧ AllB n (del H F) xs
theorem Fd.start {H1 H : Hp} {F : Addr} {n : Nat} {xs : List V} (s : Same H1 H) (n0 : H F = none) (h : AllB n H xs) : Fd H1 F n (upd H F (.lst xs)) :=
  ⟨s.free n0, by rw [del_upd, del_free n0]; exact s, xs, upd_same, by rw [del_upd, del_free n0]; exact h⟩
theorem AllB.mo {n : Nat} : Mo (AllB n) := fun H H' x e h => ⟨h.1, fun v hv => BPair.mo _ _ _ e (h.2 v hv)⟩
theorem Fd.more {H1 H : Hp} {F : Addr} {n m : Nat} {xs zs : List V} (h : Fd H1 F n H) (hx : H F = some (.lst xs)) (hz : AllB m (del H F) zs) : Fd H1 F (n + m) (upd H F (.lst (xs ++ zs))) := by
  obtain ⟨ys, h1, h2⟩ := h.ex
  rw [hx] at h1
  cases h1
  refine ⟨h.fr, by rw [del_upd]; exact h.same, _, upd_same, by rw [List.length_append, h2.1, hz.1], fun v hv => ?_⟩
  rw [del_upd]
  rcases List.mem_append.mp hv with hv | hv
  · exact h2.2 v hv
  · exact hz.2 v hv
theorem Fd.kp {H1 H H' : Hp} {F : Addr} {n : Nat} (h : Fd H1 F n H) (e : Same H H') (e2 : Same (del H F) (del H' F)) : Fd H1 F n H' := by
  obtain ⟨xs, a, b⟩ := h.ex
  exact ⟨h.fr, h.same.trans e2, xs, e _ _ a, AllB.mo _ _ _ e2 b⟩
theorem zero_pl {n : Nat} (h : 1 ≤ n) : plB n (.int 0) (.int 0) = true := by
  simp only [plB, Bool.and_eq_true, decide_eq_true_eq]
  omega
theorem one_pl {n : Nat} (h : 1 ≤ n) : plB n (.int 0) (.int 1) = true := by
  simp only [plB, Bool.and_eq_true, decide_eq_true_eq]
  omega
theorem len_pl (n : Nat) : plB n (.int (n : Nat)) (.int 0) = false := by
  have : decide (((n : Nat) : Int) < (n : Int)) = false := decide_eq_false (by omega)
  simp [plB]
theorem seq_lst {u : TA} {g : TG} {rest : TS} {D : L2.Ends} {σ : L2.St} {H : Hp} (h : u σ H (fun xs H1 => xs.length ≤ sizeLine ∧ ∀ p, H1 p = none → g (.ref p) σ (upd H1 p (.lst xs)) fun σ2 H2 => rest D σ2 H2)) : tSeq (tAsg (tLst u) g) rest D σ H := h
theorem one_arg {t : TE} {σ : L2.St} {H : Hp} {k : List V → Hp → Prop} (h : t σ H fun x H1 => k [x] H1) : tCons t tNil σ H k := h
theorem Gv.catL1 {ok : Hp → Prop} {d : Hp → Hp} {H0 : Hp} {σ : L2.St} (W : Vw ok d) {t u : TE} {xs : List V} {R : Hp → V → Prop} (h : Gv ok d H0 σ t (fun H v => ∃ c, v = .ref c ∧ H c = some (.lst xs))) (g : Gv ok d H0 σ u R) (hl : xs.length ≤ 100) :
    Gv ok d H0 σ (tOp rCat t (tLst (tCons u tNil))) (fun H v => ∃ a x, v = .ref a ∧ H a = some (.lst (xs ++ [x])) ∧ R H x) := Gv.catL W h (Gv.l1 W g) g.mo hl
section
variable {ok : Hp → Prop} {d : Hp → Hp} {H : Hp} {σ : L2.St} {M BT LT : Addr} {ps : List (Str × Str)} {bs : List (Str × Addr)} {nms : List Str} {ess : List (List Str)} {ys : List Lk}
theorem bB {H : Hp} {y : V} (hw : ∀ p ∈ bs, IsW p.1) (h : PcD H ps bs M BT LT nms ess ys) (l : LnV H nms.length y false) : BadP H (.ref BT) y := .inr ⟨h.cp hw (.inr h.b), BT, nms.map V.str, rfl, .inr h.b, by rw [List.length_map]; exact h.n1, by rw [List.length_map]; have := h.n7; omega, by rw [List.length_map]; exact l⟩
theorem bBB {H : Hp} {c : Addr} (hw : ∀ p ∈ bs, IsW p.1) (h : PcD H ps bs M BT LT nms ess ys) (hc : H c = some (.tup (nms.map V.str ++ nms.map V.str))) : BadP H (.ref c) (.ref LT) := by
  have e : nms.map V.str ++ nms.map V.str = (nms ++ nms).map V.str := by rw [List.map_append]
  have n1 := h.n1
  have n7 := h.n7
  have hw2 : ∀ m ∈ nms ++ nms, wordB m = true := fun m hm => h.wd hw m (by rcases List.mem_append.mp hm with z | z <;> exact z)
  rw [e] at hc
  refine .inr ⟨?_, c, _, rfl, .inr hc, by rw [List.length_map, List.length_append]; omega, by rw [List.length_map, List.length_append]; omega, h.ln2 (by rw [List.length_map, List.length_append]; omega)⟩
  rw [← cpB_strs hw2 (by rw [List.length_append]; omega) (by rw [List.length_append]; omega)]
  exact .tup hc (kinds_strs hw2)
end
section
variable {P : Program} {w : World} {K : PySem.W.Frag} {mg : Str → Option Value} {base : Heap}
def spSpoilt : Sp := fun vs H Q _ => ∃ (M BT LT : Addr) (ps : List (Str × Str)) (bs : List (Str × Addr)) (nms : List Str) (ess : List (List Str)) (ys : List Lk), vs = [.ref BT, .ref LT] ∧ PcD H ps bs M BT LT nms ess ys ∧ (∀ p ∈ bs, IsW p.1) ∧
  ∀ (R : Addr) (xs : List V) (H' : Hp), H R = none → H' R = some (.lst xs) → xs.length ≤ 40 → (∀ x ∈ xs, BPair (del H' R) x) → Same H (del H' R) → Same H H' → Q (.ref R) H'
theorem ok_spoilt {f : Addr} {fd : FuncData} (F : Fun K "_law_spoilt" "_law_spoilt" sSpoilt f fd) (Bt : Bi mg) : FnOk P w K mg base CX0 1 f fd ["blocks", "links"] spSpoilt := by
  refine F.ok scSpoilt (fun vs H Q E h => ?_) (fun cdv A outer s H vs Q E hr h => ?_)
  · obtain ⟨M, BT, LT, ps, bs, nms, ess, ys, rfl, _⟩ := h
    rfl
  · obtain ⟨M, BT, LT, ps, bs, nms, ess, ys, rfl, hP, hw, q⟩ := h
    have hu := hu_of hr
    have nn : nms.map V.str ≠ [] := fun z => by
      have h := congrArg List.length z
      rw [List.length_map, List.length_nil] at h
      have := hP.n1
      omega
    refine ⟨_, pss_cons (ps_set (i := 2) scSpoilt.nd rfl (.inl rfl) (pe_lst (pa_cons (pe_lst (pa_cons (pe_tup pa_nil) (pa_cons (pe_tup pa_nil) pa_nil))) (pa_cons (pe_lst (pa_cons pe_non (pa_cons (pv 1) pa_nil))) (pa_cons (pe_lst (pa_cons (pv 0) (pa_cons pe_non pa_nil))) (pa_cons (pe_lst (pa_cons (pe_lst (pa_cons pe_int pa_nil)) (pa_cons (pe_lst pa_nil) pa_nil))) (pa_cons (pe_lst (pa_cons (pe_lst (pa_cons pe_str pa_nil)) (pa_cons (pe_lst pa_nil) pa_nil))) (pa_cons (pe_lst (pa_cons (pe_lst (pa_cons pe_str pa_nil)) (pa_cons (pe_lst pa_nil) pa_nil))) (pa_cons (pe_lst (pa_cons pe_str (pa_cons (pe_lst pa_nil) pa_nil))) pa_nil)))))))))
      (pss_cons (ps_expr (pe_bm PySem.F.plainAttrs_list PySem.F.slot_list_extend PySem.F.type_list_extend mt_extend (pv 2) (pa_cons (pe_lst (pa_cons (pe_lst (pa_cons (pe_op op_catA (pv 0) (pv 0)) (pa_cons (pv 1) pa_nil))) (pa_cons (pe_lst (pa_cons (pv 0) (pa_cons (pe_op op_cat (pe_callTy call_list2 (by rfl) Bt.list boot_list (pa_cons (pv 1) pa_nil)) (pe_lst (pa_cons (pe_tup (pa_cons (pe_tup (pa_cons pe_int (pa_cons pe_int pa_nil))) (pa_cons (pe_tup (pa_cons pe_int (pa_cons pe_int pa_nil))) pa_nil))) pa_nil))) pa_nil))) (pa_cons (pe_lst (pa_cons (pv 0) (pa_cons (pe_lst (pa_cons (pe_tup (pa_cons (pe_tup (pa_cons pe_int (pa_cons pe_int pa_nil))) (pa_cons (pe_tup (pa_cons pe_int (pa_cons pe_int pa_nil))) pa_nil))) pa_nil)) pa_nil))) pa_nil)))) pa_nil)))
      (pss_cons (ps_expr (pe_bm PySem.F.plainAttrs_list PySem.F.slot_list_extend PySem.F.type_list_extend mt_extend (pv 2) (pa_cons (pe_lst (pa_cons (pe_lst (pa_cons (pv 0) (pa_cons (pe_lst (pa_cons (pe_tup (pa_cons (pe_tup (pa_cons pe_int (pa_cons pe_int pa_nil))) (pa_cons (pe_tup (pa_cons (pe_callB call_len2 (by rfl) Bt.len PySem.boot_len (pa_cons (pv 0) pa_nil)) (pa_cons pe_int pa_nil))) pa_nil))) pa_nil)) pa_nil))) (pa_cons (pe_lst (pa_cons (pe_tup (pa_cons pe_str pa_nil)) (pa_cons (pe_lst (pa_cons (pe_tup (pa_cons (pe_tup (pa_cons pe_int (pa_cons pe_int pa_nil))) (pa_cons (pe_tup (pa_cons pe_int (pa_cons pe_int pa_nil))) pa_nil))) pa_nil)) pa_nil))) (pa_cons (pe_lst (pa_cons (pe_tup (pa_cons pe_str pa_nil)) (pa_cons (pe_lst (pa_cons (pe_tup (pa_cons (pe_tup (pa_cons pe_int (pa_cons (pe_un un_neg pe_int) pa_nil))) (pa_cons (pe_tup (pa_cons pe_int (pa_cons pe_int pa_nil))) pa_nil))) pa_nil)) pa_nil))) pa_nil)))) pa_nil)))
      (pss_cons (ps_expr (pe_bm PySem.F.plainAttrs_list PySem.F.slot_list_extend PySem.F.type_list_extend mt_extend (pv 2) (pa_cons (pe_lst (pa_cons (pe_lst (pa_cons (pe_tup (pa_cons pe_str pa_nil)) (pa_cons (pe_lst (pa_cons (pe_lst (pa_cons (pe_tup (pa_cons pe_int (pa_cons pe_int pa_nil))) (pa_cons (pe_tup (pa_cons pe_int (pa_cons pe_int pa_nil))) pa_nil))) pa_nil)) pa_nil))) (pa_cons (pe_lst (pa_cons (pe_tup (pa_cons pe_str pa_nil)) (pa_cons (pe_lst (pa_cons (pe_tup (pa_cons (pe_tup (pa_cons pe_int (pa_cons pe_int pa_nil))) (pa_cons (pe_tup (pa_cons pe_int (pa_cons pe_bl pa_nil))) pa_nil))) pa_nil)) pa_nil))) (pa_cons (pe_lst (pa_cons (pe_tup (pa_cons pe_str pa_nil)) (pa_cons (pe_lst (pa_cons (pe_tup (pa_cons (pe_tup (pa_cons pe_int (pa_cons pe_int pa_nil))) pa_nil)) pa_nil)) pa_nil))) (pa_cons (pe_lst (pa_cons (pe_tup (pa_cons pe_str pa_nil)) (pa_cons (pe_lst (pa_cons (pe_tup (pa_cons pe_int (pa_cons pe_int pa_nil))) pa_nil)) pa_nil))) pa_nil))))) pa_nil)))
      (pss_cons (ps_expr (pe_bm PySem.F.plainAttrs_list PySem.F.slot_list_extend PySem.F.type_list_extend mt_extend (pv 2) (pa_cons (pe_lst (pa_cons (pe_lst (pa_cons (pe_tup (pa_cons pe_str pa_nil)) (pa_cons (pe_lst (pa_cons (pe_tup (pa_cons (pe_tup (pa_cons pe_int (pa_cons pe_int pa_nil))) (pa_cons (pe_tup (pa_cons pe_int (pa_cons pe_int pa_nil))) pa_nil))) (pa_cons (pe_tup (pa_cons (pe_tup (pa_cons pe_int (pa_cons pe_int pa_nil))) (pa_cons (pe_tup (pa_cons pe_int (pa_cons pe_int pa_nil))) pa_nil))) pa_nil))) pa_nil))) (pa_cons (pe_lst (pa_cons (pe_tup (pa_cons pe_str pa_nil)) (pa_cons (pe_lst (pa_cons (pe_tup (pa_cons (pe_tup (pa_cons pe_int (pa_cons pe_int pa_nil))) (pa_cons (pe_tup (pa_cons pe_int (pa_cons pe_int pa_nil))) pa_nil))) (pa_cons (pe_tup (pa_cons (pe_tup (pa_cons pe_int (pa_cons pe_int pa_nil))) (pa_cons (pe_tup (pa_cons pe_int (pa_cons pe_int pa_nil))) pa_nil))) pa_nil))) pa_nil))) pa_nil))) pa_nil)))
      (pss_cons (ps_if (pt_cmpR op_gt (pe_callB call_len2 (by rfl) Bt.len PySem.boot_len (pa_cons (pv 1) pa_nil)) pe_int (nomark _)) (pss_one (ps_expr (pe_bm PySem.F.plainAttrs_list PySem.F.slot_list_append PySem.F.type_list_append mt_append (pv 2) (pa_cons (pe_lst (pa_cons (pv 0) (pa_cons (pe_op op_cat (pe_callTy call_list2 (by rfl) Bt.list boot_list (pa_cons (pv 1) pa_nil)) (pe_lst (pa_cons (pe_ix ix_tup (pv 1) (pe_un un_neg pe_int) (fun _ _ => rfl)) pa_nil))) pa_nil))) pa_nil)))) pss_nil)
      (pss_one (ps_ret (pv 2)))))))), ?_⟩
    have W := Vw.all
    have e0 : ([some (.ref BT), some (.ref LT), none] : L2.St)[0]? = some (some (.ref BT)) := rfl
    have e1 : ([some (.ref BT), some (.ref LT), none] : L2.St)[1]? = some (some (.ref LT)) := rfl
    have g1 : Gvs (fun _ => True) (fun H => H) H [some (.ref BT), some (.ref LT), none] _ _ _ := (Gvs.cons (Gv.pair W (Gv.t0 W) (Gv.t0 W) (fun H x y e hx hy => by
        obtain ⟨a, rfl, h⟩ := hx
        exact .inl (by rw [show false = cpB [] by decide]; exact .tup h ⟨rfl, fun i x k p => by simp at p⟩)))
      (Gvs.cons (Gv.pair W (Gv.c .non) (Gv.var (v := .ref LT) e1) (fun H x y e hx hy => by
        subst hx
        exact .inl (.no .non rfl rfl)))
      (Gvs.cons (Gv.pair W (Gv.var (v := .ref BT) e0) (Gv.c .non) (fun H x y e hx hy => by
        subst hx
        subst hy
        exact bB hw (hP.same e) (.no .non rfl rfl)))
      (Gvs.cons (Gv.pair W (Gv.l1 W (Gv.c (.int 1))) (Gv.l0 W) (fun H x y e hx hy => by
        obtain ⟨a, x, rfl, h, rfl⟩ := hx
        exact bad_k h (.int 1) (fun z e => nomatch e) (by decide +kernel)))
      (Gvs.cons (Gv.pair W (Gv.l1 W (Gv.c (.str "A"))) (Gv.l0 W) (fun H x y e hx hy => by
        obtain ⟨a, x, rfl, h, rfl⟩ := hx
        exact bad_k h (.str "A") (fun z e => by cases e; exact Nat.le_of_lt (small1000 (by decide +kernel))) (by decide +kernel)))
      (Gvs.cons (Gv.pair W (Gv.l1 W (Gv.c (.str "abcdefghi"))) (Gv.l0 W) (fun H x y e hx hy => by
        obtain ⟨a, x, rfl, h, rfl⟩ := hx
        exact bad_k h (.str "abcdefghi") (fun z e => by cases e; exact Nat.le_of_lt (small1000 (by decide +kernel))) (by decide +kernel)))
      (Gvs.cons (Gv.pair W (Gv.c (.str "a")) (Gv.l0 W) (fun H x y e hx hy => by
        subst hx
        exact .inl (.no (.str "a") rfl rfl)))
      Gvs.nil)))))))
    clear W e0 e1
    refine seq_lst (g1.go H _ True.intro (Same.refl _) fun xs H1 _ s1 _ r1 => ⟨Nat.le_of_lt (small1000 (by rw [r1.1]; decide)), fun F nF => ?_⟩)
    have eF : (upd H1 F (.lst xs)) F = some (.lst xs) := upd_same
    have FD := Fd.start s1 nF r1
    have fr : H F = none := s1.free nF
    have sH : Same H (upd H1 F (.lst xs)) := s1.trans (same_upd nF)
    generalize (upd H1 F (.lst xs)) = H2 at eF FD sH ⊢
    clear s1 r1 nF
    have W := Vw.but F
    have e0 : ([some (.ref BT), some (.ref LT), some (.ref F)] : L2.St)[0]? = some (some (.ref BT)) := rfl
    have e1 : ([some (.ref BT), some (.ref LT), some (.ref F)] : L2.St)[1]? = some (some (.ref LT)) := rfl
    refine ⟨_, rfl, .inl ⟨rfl, _, SqL.of eF⟩, ?_⟩
    have g2 : Gv (fun H => ∃ o, H F = some o) (fun H => del H F) H [some (.ref BT), some (.ref LT), some (.ref F)] _ _ := Gvs.lst W ((Gvs.cons (Gv.pair W (Gv.cat (K := K) W e0 hP.b nn (by rw [List.length_map]; have := hP.n7; omega)) (Gv.var (v := .ref LT) e1) (fun H x y e hx hy => by
        obtain ⟨c, rfl, h⟩ := hx
        subst hy
        exact bBB hw (hP.same e) h))
      (Gvs.cons (Gv.pair W (Gv.var (v := .ref BT) e0) (Gv.catL W (Gv.list W e1 hP.l) (Gv.l1 W (Gv.t2 W (Gv.t2 W (Gv.c (.int 0)) (Gv.c (.int 0))) (Gv.t2 W (Gv.c (.int 0)) (Gv.c (.int 0))))) (Gv.mo (ok := fun _ => True) (d := fun H => H) (H0 := H) (σ := []) (Gv.t2 Vw.all (Gv.t2 Vw.all (Gv.c (.int 0)) (Gv.c (.int 0))) (Gv.t2 Vw.all (Gv.c (.int 0)) (Gv.c (.int 0))))) (by rw [List.length_map]; have := hP.l14; omega)) (fun H x y e hx hy => by
        subst hx
        obtain ⟨a, v, rfl, h, hv⟩ := hy
        obtain ⟨o1, o2, z⟩ := of_lk hv
        have hP' := hP.same e
        exact bB hw hP' (.bad (.inl h) (hP'.bad (Nat.le_refl _) (z.lex (zero_pl hP.n1) (zero_pl hP.n1) (by decide))))))
      (Gvs.cons (Gv.pair W (Gv.var (v := .ref BT) e0) (Gv.l1 W (Gv.t2 W (Gv.t2 W (Gv.c (.int 0)) (Gv.c (.int 1))) (Gv.t2 W (Gv.c (.int 0)) (Gv.c (.int 0))))) (fun H x y e hx hy => by
        subst hx
        obtain ⟨a, v, rfl, h, hv⟩ := hy
        obtain ⟨o1, o2, z⟩ := of_lk hv
        exact bB hw (hP.same e) (ln_one h (z.lex (one_pl hP.n1) (zero_pl hP.n1) (by decide)))))
      Gvs.nil)))) (by decide)
    refine one_arg (g2.go _ _ ⟨_, eF⟩ FD.same fun v H3 o3 s3 d3 r3 => ?_)
    obtain ⟨b, zs, rfl, hb, hz⟩ := r3
    have eF3 := s3 _ _ eF
    have FD3 := FD.kp s3 d3
    have fxs := FD3.ex
    refine ⟨F, b, _, zs, rfl, rfl, eF3, del_sub _ _ hb, Nat.le_of_lt (small1000 (by obtain ⟨zs, a, b⟩ := fxs; rw [eF3] at a; cases a; rw [b.1, hz.1]; decide)), ?_⟩
    have FD4 := FD3.more eF3 hz
    have sH4 := Same.chg (sH.trans s3) (o := .lst (xs ++ zs)) fr
    have eF4 : (upd H3 F (.lst (xs ++ zs))) F = some (.lst (xs ++ zs)) := upd_same
    generalize (upd H3 F (.lst (xs ++ zs))) = H4 at FD4 sH4 eF4 ⊢
    generalize xs ++ zs = xs at eF4 ⊢
    clear FD eF sH FD3 fxs hz hb eF3 s3 d3 o3
    have FD := FD4
    have sH := sH4
    have eF := eF4
    clear FD4 sH4 eF4
    refine ⟨_, rfl, .inl ⟨rfl, _, SqL.of eF⟩, ?_⟩
    have g3 : Gv (fun H => ∃ o, H F = some o) (fun H => del H F) H [some (.ref BT), some (.ref LT), some (.ref F)] _ _ := Gvs.lst W ((Gvs.cons (Gv.pair W (Gv.var (v := .ref BT) e0) (Gv.l1 W (Gv.t2 W (Gv.t2 W (Gv.c (.int 0)) (Gv.c (.int 0))) (Gv.t2 W (Gv.len W e0 hP.b) (Gv.c (.int 0))))) (fun H x y e hx hy => by
        subst hx
        obtain ⟨a, v, rfl, h, hv⟩ := hy
        obtain ⟨o1, o2, z⟩ := of_lk hv
        exact bB hw (hP.same e) (ln_one h (z.off (.inr ⟨zero_pl hP.n1, by rw [List.length_map]; exact len_pl _⟩)))))
      (Gvs.cons (Gv.pair W (Gv.t1 W (Gv.c (.str "a"))) (Gv.l1 W (Gv.t2 W (Gv.t2 W (Gv.c (.int 0)) (Gv.c (.int 0))) (Gv.t2 W (Gv.c (.int 0)) (Gv.c (.int 4))))) (fun H x y e hx hy => by
        obtain ⟨a1, x1, rfl, h1, rfl⟩ := hx
        obtain ⟨a, v, rfl, h, hv⟩ := hy
        obtain ⟨o1, o2, z⟩ := of_lk hv
        exact bad_a h1 (ln_one h (z.off (.inr ⟨by decide, by decide⟩)))))
      (Gvs.cons (Gv.pair W (Gv.t1 W (Gv.c (.str "a"))) (Gv.l1 W (Gv.t2 W (Gv.t2 W (Gv.c (.int 0)) (Gv.neg (i := 1))) (Gv.t2 W (Gv.c (.int 0)) (Gv.c (.int 1))))) (fun H x y e hx hy => by
        obtain ⟨a1, x1, rfl, h1, rfl⟩ := hx
        obtain ⟨a, v, rfl, h, hv⟩ := hy
        obtain ⟨o1, o2, z⟩ := of_lk hv
        exact bad_a h1 (ln_one h (z.off (.inl (by decide))))))
      Gvs.nil)))) (by decide)
    refine one_arg (g3.go _ _ ⟨_, eF⟩ FD.same fun v H3 o3 s3 d3 r3 => ?_)
    obtain ⟨b, zs, rfl, hb, hz⟩ := r3
    have eF3 := s3 _ _ eF
    have FD3 := FD.kp s3 d3
    have fxs := FD3.ex
    refine ⟨F, b, _, zs, rfl, rfl, eF3, del_sub _ _ hb, Nat.le_of_lt (small1000 (by obtain ⟨zs, a, b⟩ := fxs; rw [eF3] at a; cases a; rw [b.1, hz.1]; decide)), ?_⟩
    have FD4 := FD3.more eF3 hz
    have sH4 := Same.chg (sH.trans s3) (o := .lst (xs ++ zs)) fr
    have eF4 : (upd H3 F (.lst (xs ++ zs))) F = some (.lst (xs ++ zs)) := upd_same
    generalize (upd H3 F (.lst (xs ++ zs))) = H4 at FD4 sH4 eF4 ⊢
    generalize xs ++ zs = xs at eF4 ⊢
    clear FD eF sH FD3 fxs hz hb eF3 s3 d3 o3
    have FD := FD4
    have sH := sH4
    have eF := eF4
    clear FD4 sH4 eF4
    refine ⟨_, rfl, .inl ⟨rfl, _, SqL.of eF⟩, ?_⟩
    have g4 : Gv (fun H => ∃ o, H F = some o) (fun H => del H F) H [some (.ref BT), some (.ref LT), some (.ref F)] _ _ := Gvs.lst W ((Gvs.cons (Gv.pair W (Gv.t1 W (Gv.c (.str "a"))) (Gv.l1 W (Gv.l2 W (Gv.t2 W (Gv.c (.int 0)) (Gv.c (.int 0))) (Gv.t2 W (Gv.c (.int 0)) (Gv.c (.int 1))))) (fun H x y e hx hy => by
        obtain ⟨a1, x1, rfl, h1, rfl⟩ := hx
        obtain ⟨a, v, rfl, h, a2, x2, y2, rfl, h2, _⟩ := hy
        exact bad_a h1 (ln_one h (.no (.lst h2) rfl))))
      (Gvs.cons (Gv.pair W (Gv.t1 W (Gv.c (.str "a"))) (Gv.l1 W (Gv.t2 W (Gv.t2 W (Gv.c (.int 0)) (Gv.c (.int 0))) (Gv.t2 W (Gv.c (.int 0)) (Gv.c (.bl true))))) (fun H x y e hx hy => by
        obtain ⟨a1, x1, rfl, h1, rfl⟩ := hx
        obtain ⟨a, v, rfl, h, a2, x2, y2, rfl, h2, hp, a3, x3, y3, rfl, h3, rfl, rfl⟩ := hy
        obtain ⟨o1, rfl, e1⟩ := of_t2 hp
        exact bad_a h1 (ln_one h (.bad2 h2 (by rw [show true = plB 1 (.int 0) (.int 0) by decide]; exact .two e1 (.int _) (.int _)) (by rw [show false = plB 1 (.int 0) (.bl true) by decide]; exact .two h3 (.int _) (.bl _))))))
      (Gvs.cons (Gv.pair W (Gv.t1 W (Gv.c (.str "a"))) (Gv.l1 W (Gv.t1 W (Gv.t2 W (Gv.c (.int 0)) (Gv.c (.int 0))))) (fun H x y e hx hy => by
        obtain ⟨a1, x1, rfl, h1, rfl⟩ := hx
        obtain ⟨a, v, rfl, h, a2, x2, rfl, h2, _⟩ := hy
        exact bad_a h1 (ln_one h (.len h2 (by show 1 ≠ 2; decide)))))
      (Gvs.cons (Gv.pair W (Gv.t1 W (Gv.c (.str "a"))) (Gv.l1 W (Gv.t2 W (Gv.c (.int 0)) (Gv.c (.int 1)))) (fun H x y e hx hy => by
        obtain ⟨a1, x1, rfl, h1, rfl⟩ := hx
        obtain ⟨a, v, rfl, h, a2, x2, y2, rfl, h2, rfl, rfl⟩ := hy
        exact bad_a h1 (ln_one h (.bad1 h2 (.no (.int 0) rfl)))))
      Gvs.nil))))) (by decide)
    refine one_arg (g4.go _ _ ⟨_, eF⟩ FD.same fun v H3 o3 s3 d3 r3 => ?_)
    obtain ⟨b, zs, rfl, hb, hz⟩ := r3
    have eF3 := s3 _ _ eF
    have FD3 := FD.kp s3 d3
    have fxs := FD3.ex
    refine ⟨F, b, _, zs, rfl, rfl, eF3, del_sub _ _ hb, Nat.le_of_lt (small1000 (by obtain ⟨zs, a, b⟩ := fxs; rw [eF3] at a; cases a; rw [b.1, hz.1]; decide)), ?_⟩
    have FD4 := FD3.more eF3 hz
    have sH4 := Same.chg (sH.trans s3) (o := .lst (xs ++ zs)) fr
    have eF4 : (upd H3 F (.lst (xs ++ zs))) F = some (.lst (xs ++ zs)) := upd_same
    generalize (upd H3 F (.lst (xs ++ zs))) = H4 at FD4 sH4 eF4 ⊢
    generalize xs ++ zs = xs at eF4 ⊢
    clear FD eF sH FD3 fxs hz hb eF3 s3 d3 o3
    have FD := FD4
    have sH := sH4
    have eF := eF4
    clear FD4 sH4 eF4
    refine ⟨_, rfl, .inl ⟨rfl, _, SqL.of eF⟩, ?_⟩
    have g5 : Gv (fun H => ∃ o, H F = some o) (fun H => del H F) H [some (.ref BT), some (.ref LT), some (.ref F)] _ _ := Gvs.lst W ((Gvs.cons (Gv.pair W (Gv.t1 W (Gv.c (.str "a"))) (Gv.l2 W (Gv.t2 W (Gv.t2 W (Gv.c (.int 0)) (Gv.c (.int 2))) (Gv.t2 W (Gv.c (.int 0)) (Gv.c (.int 3)))) (Gv.t2 W (Gv.t2 W (Gv.c (.int 0)) (Gv.c (.int 0))) (Gv.t2 W (Gv.c (.int 0)) (Gv.c (.int 1))))) (fun H x y e hx hy => by
        obtain ⟨a1, x1, rfl, h1, rfl⟩ := hx
        obtain ⟨a, v, u, rfl, h, hv, hu⟩ := hy
        obtain ⟨o1, o2, z⟩ := of_lk hv
        obtain ⟨o3, o4, z2⟩ := of_lk hu
        exact bad_a h1 (ln_two h z z2 (by decide) (by decide) (by decide) (by decide) (by decide) (by decide) (by decide +kernel))))
      (Gvs.cons (Gv.pair W (Gv.t1 W (Gv.c (.str "a"))) (Gv.l2 W (Gv.t2 W (Gv.t2 W (Gv.c (.int 0)) (Gv.c (.int 0))) (Gv.t2 W (Gv.c (.int 0)) (Gv.c (.int 1)))) (Gv.t2 W (Gv.t2 W (Gv.c (.int 0)) (Gv.c (.int 1))) (Gv.t2 W (Gv.c (.int 0)) (Gv.c (.int 2))))) (fun H x y e hx hy => by
        obtain ⟨a1, x1, rfl, h1, rfl⟩ := hx
        obtain ⟨a, v, u, rfl, h, hv, hu⟩ := hy
        obtain ⟨o1, o2, z⟩ := of_lk hv
        obtain ⟨o3, o4, z2⟩ := of_lk hu
        exact bad_a h1 (ln_two h z z2 (by decide) (by decide) (by decide) (by decide) (by decide) (by decide) (by decide +kernel))))
      Gvs.nil))) (by decide)
    refine one_arg (g5.go _ _ ⟨_, eF⟩ FD.same fun v H3 o3 s3 d3 r3 => ?_)
    obtain ⟨b, zs, rfl, hb, hz⟩ := r3
    have eF3 := s3 _ _ eF
    have FD3 := FD.kp s3 d3
    have fxs := FD3.ex
    refine ⟨F, b, _, zs, rfl, rfl, eF3, del_sub _ _ hb, Nat.le_of_lt (small1000 (by obtain ⟨zs, a, b⟩ := fxs; rw [eF3] at a; cases a; rw [b.1, hz.1]; decide)), ?_⟩
    have FD4 := FD3.more eF3 hz
    have sH4 := Same.chg (sH.trans s3) (o := .lst (xs ++ zs)) fr
    have eF4 : (upd H3 F (.lst (xs ++ zs))) F = some (.lst (xs ++ zs)) := upd_same
    generalize (upd H3 F (.lst (xs ++ zs))) = H4 at FD4 sH4 eF4 ⊢
    generalize xs ++ zs = xs at eF4 ⊢
    clear FD eF sH FD3 fxs hz hb eF3 s3 d3 o3
    have FD := FD4
    have sH := sH4
    have eF := eF4
    clear FD4 sH4 eF4
    refine ⟨_, rfl, LT, ys.map lkR, rfl, .inr (sH _ _ hP.l), _, _, rfl, rfl, _, rfl, ?_⟩
    rw [List.length_map]
    cases hys : ys.reverse with
    | nil =>
      have y0 : ys = [] := List.reverse_eq_nil_iff.mp hys
      rw [show decide ((0 : Int) < ((ys.length : Nat) : Int)) = false by rw [y0]; rfl]
      show if false = true then _ else _
      rw [if_neg Bool.false_ne_true]
      refine ⟨_, rfl, q F _ _ fr eF ?_ ?_ FD.same sH⟩
      · obtain ⟨zs, a, b⟩ := FD.ex
        rw [eF] at a
        cases a
        rw [b.1]
        decide
      · obtain ⟨zs, a, b⟩ := FD.ex
        rw [eF] at a
        cases a
        exact b.2
    | cons yl yr =>
      have y0 : ys = yr.reverse ++ [yl] := by
        have := congrArg List.reverse hys
        rw [List.reverse_reverse, List.reverse_cons] at this
        exact this
      have hly : yl ∈ ys := by rw [y0]; simp
      have hlast : atI (ys.map lkR) (-1) = some (lkR yl) := by
        rw [y0, List.map_append]
        exact atI_last _ _
      have hl0 : 0 < ys.length := by rw [y0]; simp
      rw [show decide ((0 : Int) < ((ys.length : Nat) : Int)) = true by exact decide_eq_true (by omega)]
      show if true = true then _ else _
      rw [if_pos rfl]
      refine ⟨_, rfl, .inl ⟨rfl, _, SqL.of eF⟩, ?_⟩
      have g6 : Gv (fun H => ∃ o, H F = some o) (fun H => del H F) H [some (.ref BT), some (.ref LT), some (.ref F)] _ _ := (Gv.pair W (Gv.var (v := .ref BT) e0) (Gv.catL1 W (Gv.list W e1 hP.l) (Gv.last (K := K) W e1 hP.l hlast) (by rw [List.length_map]; have := hP.l14; omega)) (fun H x y e hx hy => by
        subst hx
        obtain ⟨a, v, rfl, h, rfl⟩ := hy
        have hP' := hP.same e
        exact bB hw hP' (.bad (.inl h) (hP'.dup (Nat.le_refl _) hly))))
      refine one_arg (g6.go _ _ ⟨_, eF⟩ FD.same fun v H3 o3 s3 d3 r3 => ?_)
      have eF3 := s3 _ _ eF
      have FD3 := FD.kp s3 d3
      have fxs := FD3.ex
      refine ⟨F, _, v, rfl, rfl, eF3, small1000 (by obtain ⟨zs, a, b⟩ := fxs; rw [eF3] at a; cases a; rw [b.1]; decide), ?_⟩
      have FD4 := FD3.more eF3 (zs := [v]) (m := 1) ⟨rfl, fun x hx => by rw [List.mem_singleton.mp hx]; exact r3⟩
      have sH4 : Same H (upd H3 F (.lst (xs ++ [v]))) := Same.chg (sH.trans s3) fr
      refine ⟨_, rfl, q F _ _ fr upd_same ?_ ?_ FD4.same sH4⟩
      · obtain ⟨zs, a, b⟩ := FD4.ex
        rw [upd_same] at a
        cases a
        rw [b.1]
        decide
      · obtain ⟨zs, a, b⟩ := FD4.ex
        rw [upd_same] at a
        cases a
        exact b.2
end
end K1

set_option Elab.async false
set_option linter.all false
set_option maxRecDepth 100000
set_option maxHeartbeats 1000000
namespace K1
open PySem PySem.Spec PyProof.Rows L2
open PySem.W (dataLe dataLt)
/-- 'z' * 8 -/
theorem op_z8 {X : Cx} : OpR X (binaryOp .Mult) (fun x y H Q => x = .str "z" ∧ y = .int 8 ∧ Q (.str "zzzzzzzz") H) := by
  intro pins s σ H x y v u Q I rx ry h
  obtain ⟨rfl, rfl, q⟩ := h
  obtain ⟨t, rfl⟩ := rx
  obtain ⟨t', rfl⟩ := ry
  refine PySem.P.mul_str (by decide +kernel) (fun _ _ => by decide +kernel) (fun _ _ => by decide +kernel) ?_
  rw [if_neg (by decide), if_neg (by decide +kernel)]
  exact ⟨by decide +kernel, ⟨.str "zzzzzzzz", H, I.tok _, ⟨_, by
    have : (⟨(List.replicate (8 : Int).toNat ("z" : Str).cps).foldl (· ++ ·) #[]⟩ : Str) = "zzzzzzzz" := by decide +kernel
    rw [this]⟩, q⟩⟩
end K1

set_option Elab.async false
set_option linter.all false
set_option maxRecDepth 100000
set_option maxHeartbeats 1000000
namespace K1
open PySem PySem.Spec PyProof.Rows L2
open PySem.W (dataLe dataLt)
theorem tupNoT {H : Hp} : TupK H (noT H) := fun b xs e => noT_eq e (by intro ps z; cases z)
theorem PcD.noT {H : Hp} {ps : List (Str × Str)} {bs : List (Str × Addr)} {M BT LT : Addr} {nms : List Str} {ess : List (List Str)} {ys : List Lk} (h : PcD H ps bs M BT LT nms ess ys) : PcD (noT H) ps bs M BT LT nms ess ys :=
  ⟨noT_eq h.m (by intro ps z; cases z), tupNoT _ _ h.b, tupNoT _ _ h.l, h.lk.tk tupNoT, h.es.same tupNoT, h.gr, h.pw, h.n1, h.n7, h.l14⟩
theorem PieceAt.noT {C : Addr} {H : Hp} {p bt lt : Addr} {bs xs : List V} (h : PieceAt C H p bt lt bs xs) : PieceAt C (noT H) p bt lt bs xs := by
  obtain ⟨⟨dx, h1⟩, h2, h3⟩ := h
  exact ⟨⟨dx, noT_eq h1 (by intro ps z; cases z)⟩, tupNoT _ _ h2, tupNoT _ _ h3⟩
theorem PlV.noT {H : Hp} {n : Nat} {x : V} {b : Bool} (h : PlV H n x b) : PlV (noT H) n x b := by
  cases h with
  | no h hk => exact .no h.noT hk
  | len h hl => exact .len (tupNoT _ _ h) hl
  | two h hc he => exact .two (tupNoT _ _ h) hc.noT he.noT
theorem LkV.noT {H : Hp} {n : Nat} {x : V} {b : Bool} (h : LkV H n x b) : LkV (noT H) n x b := by
  cases h with
  | no h hk => exact .no h.noT hk
  | len h hl => exact .len (tupNoT _ _ h) hl
  | bad1 h h1 => exact .bad1 (tupNoT _ _ h) h1.noT
  | bad2 h h1 h2 => exact .bad2 (tupNoT _ _ h) h1.noT h2.noT
  | good h h1 h2 p1 p2 => exact .good (tupNoT _ _ h) (tupNoT _ _ h1) (tupNoT _ _ h2) p1 p2
theorem LinksV.noT {H : Hp} {n : Nat} {xs : List V} {r : Bool} (h : LinksV H n xs r) : LinksV (noT H) n xs r := by
  obtain ⟨hl, fs, f1, f2, f3⟩ := h
  refine ⟨hl, fs, f1, fun i x b h1 h2 => (f2 i x b h1 h2).noT, ?_⟩
  rcases f3 with f3 | ⟨f3, ls, g1, g2, g3⟩
  · exact .inl f3
  · refine .inr ⟨f3, ls, g1, fun i x p h1 h2 => ?_, g3⟩
    obtain ⟨o1, o2, z⟩ := g2 i x p h1 h2
    exact ⟨o1, o2, z.tk tupNoT⟩
theorem Sq2.noT {H : Hp} {a : Addr} {xs : List V} (h : Sq2 H a xs) : Sq2 (noT H) a xs := h.elim (fun z => .inl (noT_eq z (by intro ps z; cases z))) fun z => .inr (tupNoT _ _ z)
theorem LnV.noT {H : Hp} {n : Nat} {y : V} {r : Bool} (h : LnV H n y r) : LnV (noT H) n y r := by
  cases h with
  | no h h1 h2 => exact .no h.noT h1 h2
  | bad h hv => exact .bad h.noT hv.noT
  | good h hv hl hk hb hr => exact .good h.noT hv.noT hl (fun i x p h1 h2 => (hk i x p h1 h2).kept fun a xs z => tupNoT _ _ z) hb hr
theorem Kinds.noT {H : Hp} {xs : List V} {ks : List Kd} (h : Kinds H xs ks) : Kinds (noT H) xs ks := ⟨h.1, fun i x k a b => ⟨(h.2 i x k a b).1.noT, (h.2 i x k a b).2⟩⟩
theorem CpV.noT {H : Hp} {x : V} {r : Bool} (h : CpV H x r) : CpV (noT H) x r := by
  cases h with
  | no h hk hl => exact .no h.noT hk hl
  | lst h hk => exact .lst (noT_eq h (by intro ps z; cases z)) hk.noT
  | tup h hk => exact .tup (tupNoT _ _ h) hk.noT
theorem BadP.noT {H : Hp} {x y : V} (h : BadP H x y) : BadP (noT H) x y := by
  rcases h with h | ⟨h, Bk, bs, rfl, h1, h2, h3, h4⟩
  · exact .inl h.noT
  · exact .inr ⟨h.noT, Bk, bs, rfl, h1.noT, h2, h3, h4.noT⟩
theorem BPair.noT {H : Hp} {v : V} (h : BPair H v) : BPair (noT H) v := by
  obtain ⟨p, x, y, e, a, b⟩ := h
  exact ⟨p, x, y, e, noT_eq a (by intro ps z; cases z), b.noT⟩
section
variable {H : Hp} {ps : List (Str × Str)} {bs : List (Str × Addr)} {M BT LT : Addr} {nms : List Str} {ess : List (List Str)} {ys : List Lk} {C : Addr}
/-- a piece made of a drawn one -/
theorem PcD.wf (h : PcD H ps bs M BT LT nms ess ys) (hw : ∀ p ∈ bs, IsW p.1) {p bt lt : Addr} (hp : PieceAt C H p bt lt (nms.map V.str) (ys.map lkR)) : PcWf C H p bt lt nms (ys.map lkR) :=
  ⟨hp, h.wd hw, h.n1, by have := h.n7; omega, h.ln (.inr hp.l)⟩
theorem PcD.has (h : PcD H ps bs M BT LT nms ess ys) : nms.all (fun m => (K1.look (bl bs) m).isSome) = true := by
  rw [List.all_eq_true]
  intro m hm
  obtain ⟨i, hi⟩ := List.getElem?_of_mem hm
  have hl := (List.getElem?_eq_some_iff.mp hi).1
  obtain ⟨t, ht, _⟩ := h.es.2 i m _ hi (List.getElem?_eq_getElem (by rw [h.es.1]; exact hl))
  rw [look_bl, ht]
  rfl
theorem PcD.fit (h : PcD H ps bs M BT LT nms ess ys) (hP : PartOk ps) : FitV H ps (bl bs) nms (ys.map lkR) true := by
  refine ⟨ys.map (·.2), ys.map fun _ => true, by rw [List.length_map, List.length_map], by rw [List.length_map, List.length_map], fun i x p r a b c => ?_, by symm; rw [List.all_map, List.all_eq_true]; exact fun _ _ => rfl⟩
  rw [List.getElem?_map] at a b c
  cases hy : ys[i]? with
  | none => rw [hy] at a; cases a
  | some y =>
  rw [hy] at a b c
  cases a
  cases b
  cases c
  have hm := List.mem_of_getElem? hy
  obtain ⟨o1, o2, z⟩ := h.lk y hm
  obtain ⟨i1, j1, i2, j2, e1, e2, x1, x2, ey, g1, g2, k1, k2, kx, _⟩ := h.gr.ok y.2 (List.mem_map.mpr ⟨y, hm, rfl⟩)
  have l1 := (List.getElem?_eq_some_iff.mp g1).1
  have l2 := (List.getElem?_eq_some_iff.mp g2).1
  obtain ⟨m1, hm1⟩ : ∃ m, nms[i1]? = some m := ⟨_, List.getElem?_eq_getElem (by rw [← h.es.1]; exact l1)⟩
  obtain ⟨m2, hm2⟩ : ∃ m, nms[i2]? = some m := ⟨_, List.getElem?_eq_getElem (by rw [← h.es.1]; exact l2)⟩
  obtain ⟨a1, w1, w2, _, _, w3⟩ := h.es.2 i1 m1 e1 hm1 g1
  obtain ⟨a2, v1, v2, _⟩ := h.es.2 i2 m2 e2 hm2 g2
  refine ⟨o1, o2, z, i1, i2, j1, j2, m1, m2, a1, a2, e1, e2, ⟨congrArg Prod.fst ey, congrArg Prod.snd ey, hm1, hm2, by rw [look_bl, w1]; rfl, by rw [look_bl, v1]; rfl, w2, v2⟩, ?_, fun x hx => ?_⟩
  · unfold fitE
    rw [k1, k2]
    exact (decide_eq_true kx).symm
  · obtain ⟨q, hq, e⟩ := List.mem_map.mp (w3 x hx)
    exact ⟨q.2, by rw [← e]; exact look_some hP.nd hq⟩
theorem PcD.lens (h : PcD H ps bs M BT LT nms ess ys) : LensV H (bl bs) nms (ess.map List.length) := by
  refine ⟨by rw [List.length_map, h.es.1], fun n hn => ?_, fun i m n a b => ?_⟩
  · obtain ⟨es, he, rfl⟩ := List.mem_map.mp hn
    exact h.es.four es he
  · rw [List.getElem?_map] at b
    cases he : ess[i]? with
    | none => rw [he] at b; cases b
    | some es =>
      rw [he] at b
      cases b
      obtain ⟨t, w1, w2, _⟩ := h.es.2 i m es a he
      exact ⟨t, es.map V.str, by rw [look_bl, w1]; rfl, w2, by rw [List.length_map]⟩
/-- on a sheet where each of its blocks has one end -/
theorem PcD.fitR (h : PcD H ps bs M BT LT nms ess ys) {b : List (Str × V)} {z : Str} (hb : ∀ m ∈ nms, ∃ a, K1.look b m = some (.ref a) ∧ H a = some (.tup [.str z])) : ∃ r, FitV H [(z, z)] b nms (ys.map lkR) r := by
  refine ⟨_, ys.map (·.2), ys.map fun y => fitE [(z, z)] [z] [z] y.2.1.2.toNat y.2.2.2.toNat, by rw [List.length_map, List.length_map], by rw [List.length_map, List.length_map], fun i x p r a b' c => ?_, rfl⟩
  rw [List.getElem?_map] at a b' c
  cases hy : ys[i]? with
  | none => rw [hy] at a; cases a
  | some y =>
  rw [hy] at a b' c
  cases a
  cases b'
  cases c
  have hm := List.mem_of_getElem? hy
  obtain ⟨o1, o2, w⟩ := h.lk y hm
  obtain ⟨i1, j1, i2, j2, e1, e2, x1, x2, ey, g1, g2, _⟩ := h.gr.ok y.2 (List.mem_map.mpr ⟨y, hm, rfl⟩)
  have l1 := (List.getElem?_eq_some_iff.mp g1).1
  have l2 := (List.getElem?_eq_some_iff.mp g2).1
  obtain ⟨m1, hm1⟩ : ∃ m, nms[i1]? = some m := ⟨_, List.getElem?_eq_getElem (by rw [← h.es.1]; exact l1)⟩
  obtain ⟨m2, hm2⟩ : ∃ m, nms[i2]? = some m := ⟨_, List.getElem?_eq_getElem (by rw [← h.es.1]; exact l2)⟩
  obtain ⟨a1, w1, w2⟩ := hb m1 (List.mem_of_getElem? hm1)
  obtain ⟨a2, v1, v2⟩ := hb m2 (List.mem_of_getElem? hm2)
  refine ⟨o1, o2, w, i1, i2, j1, j2, m1, m2, a1, a2, [z], [z], ⟨congrArg Prod.fst ey, congrArg Prod.snd ey, hm1, hm2, w1, v1, w2, v2⟩, by show fitE [(z, z)] [z] [z] y.2.1.2.toNat y.2.2.2.toNat = _; rw [ey]; rfl, fun x hx => ⟨z, ?_⟩⟩
  rw [List.mem_singleton.mp hx]
  exact look_some (p := (z, z)) (by simp) (by simp)
end
theorem upTo_tr (ess : List (List Str)) (n : Nat) : upTo (ess.map List.length) n = (trTo ess n).map trP := by
  unfold upTo trTo
  rw [List.map_flatMap]
  refine congrArg (fun f => List.flatMap f (List.range n)) (funext fun c => ?_)
  unfold trOf
  rw [List.map_map]
  have : (ess.map List.length).getD c 0 = (ess.getD c []).length := by
    rw [List.getD_eq_getElem?_getD, List.getD_eq_getElem?_getD, List.getElem?_map]
    cases ess[c]? <;> rfl
  rw [this]
  rfl
theorem free_tr (ess : List (List Str)) (ls : List (Pl × Pl)) (n : Nat) (hn : ess.length = n) : freeP (ess.map List.length) ls = ((trTo ess n).filter fun q => !decide (trP q ∈ plsOf ls)).map trP := by
  unfold freeP
  rw [List.length_map, hn, upTo_tr, List.filter_map]
  rfl
/-- two orders of the same names -/
theorem Asc.same {ks ls zs ws : List Str} (h : Asc ks zs) (g : Asc ls ws) (e : ∀ m, m ∈ zs ↔ m ∈ ws) : ks.length = ls.length ∧ ∀ m ∈ ks, m ∈ ls := by
  have hm : ∀ m, m ∈ ks ↔ m ∈ ls := fun m => ((h.mem m).trans (e m)).trans (g.mem m).symm
  exact ⟨Nat.le_antisymm (nd_len h.nd fun x hx => (hm x).mp hx) (nd_len g.nd fun x hx => (hm x).mpr hx), fun m hm' => (hm m).mp hm'⟩
end K1

set_option Elab.async false
set_option linter.all false
set_option maxRecDepth 100000
set_option maxHeartbeats 1000000
namespace K1
open PySem PySem.Spec PyProof.Rows L2
open PySem.W (dataLe dataLt)
/-- a piece is made -/
theorem piece_ok {CP CE : Addr} {H : Hp} {p dx a l : Addr} {bs xs : List V} {Q : VK} {E : XK} (ob : H p = some (.ins CP dx [])) (cp : CpV H (.ref a) true) (hs : Sq2 H a bs) (n1 : 1 ≤ bs.length) (n2 : bs.length ≤ 200) (ln : LnV H bs.length (.ref l) true) (hl : Sq2 H l xs)
    (q : ∀ bt lt H', PieceAt CP H' p bt lt bs xs → (∀ c o, c ≠ p → H c = some o → H' c = some o) → Q .non H') : spPInit CP CE [.ref p, .ref a, .ref l] H Q E :=
  ⟨p, dx, _, _, true, rfl, ob, cp, .inr ⟨rfl, a, bs, true, rfl, hs, n1, n2, ln, .inr ⟨rfl, l, xs, rfl, hl, q⟩⟩⟩
theorem lkD_lay (p : Pl × Pl) : (lkD p).canLay0 = true := by simp [lkD, plD, PyData.canLay0, PyData.canLayAll0]
theorem lkD_dep (p : Pl × Pl) : (lkD p).depth ≤ 2 := by simp [lkD, plD, PyData.depth, PyData.depthAll]
theorem lk_lays (ys : List Lk) : PyData.canLayAll0 (ys.map lkE) = true := lays_mem (f := lkE) fun q _ => lkD_lay q.2
theorem lk_sh (ys : List Lk) : SeqAt.shaped (.tuple (ys.map lkE)) = true := by
  unfold SeqAt.shaped
  have h2 := deps_of (f := lkE) (n := 2) (fun y => lkD_dep y.2) ys
  simp only [PyData.canLay0, lk_lays, PyData.depth, Bool.true_and]
  exact decide_eq_true (by omega)
theorem lk_dp {K : PySem.W.Frag} {H : Hp} : ∀ {ys : List Lk}, LkAll H ys → DpAll K H (ys.map lkR) (ys.map lkE)
  | [], _ => .nil
  | y :: r, h => .cons (lkD_dp (h y (List.mem_cons_self ..))) (lk_dp fun z hz => h z (List.mem_cons_of_mem _ hz))
theorem ne_links {K : PySem.W.Frag} {H : Hp} {a b : Addr} {ys : List Lk} {Q : VK} (h1 : H a = some (.tup (ys.map lkR))) (h2 : H b = some (.tup (ys.map lkR))) (hl : LkAll H ys) (q : Q (.bl false) H) : rNeD K (.ref a) (.ref b) H Q := by
  refine ⟨.tuple (ys.map lkE), .tuple (ys.map lkE), .tup (SqT.of h1) (lk_dp hl), .tup (SqT.of h2) (lk_dp hl), lk_sh ys, lk_sh ys, ?_⟩
  rw [SeqAt.eqv_refl (.tuple (ys.map lkE)) (by simp only [PyData.canLay0, lk_lays])]
  exact q
/-- the pairs of places, twice -/
theorem ne_pls {K : PySem.W.Frag} {H : Hp} {a b : Addr} {qs : List Pl} {Q : VK} (h1 : PlsAt H a qs) (h2 : PlsAt H b qs) (q : Q (.bl false) H) : rNeD K (.ref a) (.ref b) H Q := by
  obtain ⟨ts, t1, t2, t3⟩ := h1
  obtain ⟨us, u1, u2, u3⟩ := h2
  have sh : SeqAt.shaped (.list (qs.map plD)) = true := sh_mem (n := 1) (fun q _ => plD_lay q) (fun q => Nat.le_of_eq (plD_dep q)) (by decide)
  refine ⟨.list (qs.map plD), .list (qs.map plD), .lst (SqL.of t1) (dpall_of t2 fun j u r a b => dp_pl (t3 j u r a b)), .lst (SqL.of u1) (dpall_of u2 fun j u r a b => dp_pl (u3 j u r a b)), sh, sh, ?_⟩
  rw [SeqAt.eqv_refl (.list (qs.map plD)) (by
    simp only [PyData.canLay0]
    exact lays_mem fun q _ => plD_lay q)]
  exact q
/-- two tuples of the same texts, as data -/
theorem dp_strs {K : PySem.W.Frag} {H : Hp} (zs : List Str) (ok : ∀ z ∈ zs, sOk (.str z)) : ∃ d, (∀ a, H a = some (.tup (zs.map V.str)) → Dp K H (.ref a) d) ∧ SeqAt.shaped d = true ∧ PyData.eqv d d = true := by
  obtain ⟨ds, g1, g2, g3⟩ := dp_all (K := K) (H := H) (xs := zs.map V.str) (fun x hx => by
    obtain ⟨z, hz, rfl⟩ := List.mem_map.mp hx
    exact ok z hz)
  refine ⟨.tuple ds, fun a h => .tup (SqT.of h) g1, ?_, SeqAt.eqv_refl (.tuple ds) (by simp only [PyData.canLay0, g2])⟩
  unfold SeqAt.shaped
  simp only [PyData.canLay0, g2, PyData.depth, Bool.true_and]
  exact decide_eq_true (by omega)
theorem PcD.isw {H : Hp} {ps : List (Str × Str)} {bs : List (Str × Addr)} {M BT LT : Addr} {nms : List Str} {ess : List (List Str)} {ys : List Lk} (h : PcD H ps bs M BT LT nms ess ys) (hw : ∀ p ∈ bs, IsW p.1) : ∀ m ∈ nms, IsW m := fun m hm => by
  obtain ⟨i, hi⟩ := List.getElem?_of_mem hm
  have hl := (List.getElem?_eq_some_iff.mp hi).1
  obtain ⟨t, ht, _⟩ := h.es.2 i m _ hi (List.getElem?_eq_getElem (by rw [h.es.1]; exact hl))
  exact hw _ (look_mem ht)
end K1

set_option Elab.async false
set_option linter.all false
set_option maxRecDepth 100000
set_option maxHeartbeats 1000000
namespace K1
open PySem PySem.Spec PyProof.Rows L2
open PySem.W (dataLe dataLt)
theorem bad_pinit {CP CE : Addr} {H : Hp} {p dx : Addr} {x y : V} {Q : VK} {E : XK} (ob : H p = some (.ins CP dx [])) (b : BadP H x y) (q : ∀ H', Same H H' → E (.ref CE) none H') : spPInit CP CE [.ref p, x, y] H Q E := by
  rcases b with h | ⟨h, Bk, bs, rfl, h1, h2, h3, h4⟩
  · exact ⟨p, dx, x, y, false, rfl, ob, h, .inl ⟨rfl, q⟩⟩
  · exact ⟨p, dx, _, y, true, rfl, ob, h, .inr ⟨rfl, Bk, bs, false, rfl, h1, h2, h3, h4, .inl ⟨rfl, q⟩⟩⟩
/-- the other sheet -/
def Oth (C : Addr) (H : Hp) (OT : Addr) (nms : List Str) (inq : Bool) : Prop := ∃ (po bo no : Addr) (ps : List (Str × Str)) (bs : List (Str × Addr)), SheetAt C H OT po bo no (pl ps) (bl bs) ∧ (ps.map (·.1)).Nodup ∧ ((bl bs).map (·.1)).Nodup ∧
  (nms.all (fun m => (K1.look (bl bs) m).isSome) = false ∨ (inq = true ∧ nms.all (fun m => (K1.look (bl bs) m).isSome) = true ∧ ∃ z, ps = [(z, z)] ∧ ∀ m ∈ nms, ∃ a, K1.look (bl bs) m = some (.ref a) ∧ H a = some (.tup [.str z])))
theorem Oth.same {C : Addr} {H H' : Hp} {OT : Addr} {nms : List Str} {q : Bool} (h : Oth C H OT nms q) (e : Same H H') : Oth C H' OT nms q := by
  obtain ⟨po, bo, no, ps, bs, h1, h2, h3, h4⟩ := h
  refine ⟨po, bo, no, ps, bs, h1.same e, h2, h3, h4.imp id fun ⟨a, b, z, c, d⟩ => ⟨a, b, z, c, fun m hm => ?_⟩⟩
  obtain ⟨x, y1, y2⟩ := d m hm
  exact ⟨x, y1, e _ _ y2⟩
theorem Oth.noT {C : Addr} {H : Hp} {OT : Addr} {nms : List Str} {q : Bool} (h : Oth C H OT nms q) : Oth C (noT H) OT nms q := by
  obtain ⟨po, bo, no, ps, bs, h1, h2, h3, h4⟩ := h
  refine ⟨po, bo, no, ps, bs, h1.noT, h2, h3, h4.imp id fun ⟨a, b, z, c, d⟩ => ⟨a, b, z, c, fun m hm => ?_⟩⟩
  obtain ⟨x, y1, y2⟩ := d m hm
  exact ⟨x, y1, tupNoT _ _ y2⟩
theorem Oth.kp {C : Addr} {H H' : Hp} {OT d sc : Addr} {nms : List Str} {q : Bool} (h : Oth C H OT nms q) (hD : DrawAt H d sc) (k : Kp d H H') : Oth C H' OT nms q := by
  obtain ⟨po, bo, no, ps, bs, h1, h2, h3, h4⟩ := h
  refine ⟨po, bo, no, ps, bs, h1.kp hD k, h2, h3, h4.imp id fun ⟨a, b, z, c, e⟩ => ⟨a, b, z, c, fun m hm => ?_⟩⟩
  obtain ⟨x, y1, y2⟩ := e m hm
  exact ⟨x, y1, (k.tup hD) _ _ y2⟩
theorem Oth.pc {C CP : Addr} {H : Hp} {OT : Addr} {nms : List Str} {q : Bool} {ps : List (Str × Str)} {bs : List (Str × Addr)} {M BT LT : Addr} {ess : List (List Str)} {ys : List Lk} {p bt lt : Addr} (h : Oth C H OT nms q) (hP : PcD H ps bs M BT LT nms ess ys) (hw : ∀ p ∈ bs, IsW p.1) (hA : PieceAt CP H p bt lt (nms.map V.str) (ys.map lkR)) :
    ∃ (po bo no : Addr) (ps' : List (Str × Str)) (b' : List (Str × V)) (r : Bool), SheetAt C H OT po bo no (pl ps') b' ∧ (ps'.map (·.1)).Nodup ∧ (b'.map (·.1)).Nodup ∧ PcV CP H ps' b' (.ref p) r ∧ (r = true → q = true) := by
  obtain ⟨po, bo, no, ps', bs', h1, h2, h3, h4⟩ := h
  rcases h4 with h4 | ⟨hq, hn, z, rfl, h5⟩
  · exact ⟨po, bo, no, ps', bl bs', false, h1, h2, h3, .out (hP.wf hw hA) h4, fun z => nomatch z⟩
  · obtain ⟨r, hf⟩ := hP.fitR h5
    exact ⟨po, bo, no, _, bl bs', r, h1, h2, h3, .fit (hP.wf hw hA) hn hf, fun _ => hq⟩
/-- no piece of a sheet -/
def Npc (CP : Addr) (H : Hp) (bs : List (Str × Addr)) (v : V) : Prop := (∃ k, Is H v k) ∨ ∃ (p bt lt : Addr), v = .ref p ∧ PieceAt CP H p bt lt [.str "zzzzzzzz"] [] ∧ K1.look bs "zzzzzzzz" = none
theorem Npc.same {CP : Addr} {H H' : Hp} {bs : List (Str × Addr)} {v : V} (h : Npc CP H bs v) (e : Same H H') : Npc CP H' bs v := by
  rcases h with ⟨k, h⟩ | ⟨p, bt, lt, a, b, c⟩
  · exact .inl ⟨k, h.same e⟩
  · exact .inr ⟨p, bt, lt, a, b.same e, c⟩
theorem Npc.noT {CP : Addr} {H : Hp} {bs : List (Str × Addr)} {v : V} (h : Npc CP H bs v) : Npc CP (noT H) bs v := by
  rcases h with ⟨k, h⟩ | ⟨p, bt, lt, a, b, c⟩
  · exact .inl ⟨k, h.noT⟩
  · exact .inr ⟨p, bt, lt, a, b.noT, c⟩
theorem PieceAt.kp {C : Addr} {H H' : Hp} {p bt lt d sc : Addr} {bs xs : List V} (h : PieceAt C H p bt lt bs xs) (hD : DrawAt H d sc) (k : Kp d H H') : PieceAt C H' p bt lt bs xs := by
  obtain ⟨⟨dx, h1⟩, h2, h3⟩ := h
  obtain ⟨ns, n, e1, _⟩ := hD.ex
  exact ⟨⟨dx, k _ _ (ne_of h1 e1 (by intro z; cases z)) h1⟩, (k.tup hD) _ _ h2, (k.tup hD) _ _ h3⟩
theorem PcD.kp {H H' : Hp} {d sc : Addr} {ps : List (Str × Str)} {bs : List (Str × Addr)} {M BT LT : Addr} {nms : List Str} {ess : List (List Str)} {ys : List Lk} (h : PcD H ps bs M BT LT nms ess ys) (hD : DrawAt H d sc) (n : M ≠ d) (k : Kp d H H') : PcD H' ps bs M BT LT nms ess ys :=
  ⟨k _ _ n h.m, (k.tup hD) _ _ h.b, (k.tup hD) _ _ h.l, h.lk.tk (k.tup hD), h.es.same (k.tup hD), h.gr, h.pw, h.n1, h.n7, h.l14⟩
theorem cp_z {H : Hp} {a : Addr} (h : H a = some (.lst [.str "zzzzzzzz"])) : CpV H (.ref a) true := by
  have : cpB [Kd.str "zzzzzzzz"] = true := by decide +kernel
  rw [← this]
  exact .lst h ⟨rfl, fun i x k p q => match i, p, q with
    | 0, p, q => by cases p; cases q; exact ⟨.str _, fun z e => by cases e; exact Nat.le_of_lt (small1000 (by decide +kernel))⟩⟩
/-- one copy, no links -/
theorem ln_z {H : Hp} {a : Addr} (h : Sq2 H a []) : LnV H 1 (.ref a) true :=
  .good (ls := []) h ⟨by decide, [], rfl, fun i x b p => by simp at p, .inr ⟨rfl, [], rfl, fun i x b p => by simp at p, by decide⟩⟩ rfl (fun i x b p => by simp at p) (fun p hp => nomatch hp) fun near hr => ⟨fun _ v hv => by
    have : v = 0 := by omega
    subst this
    exact .me, fun _ => rfl⟩
theorem Npc.pc {CP : Addr} {H : Hp} {bs : List (Str × Addr)} {v : V} (h : Npc CP H bs v) (ps : List (Str × Str)) : PcV CP H ps (bl bs) v false := by
  rcases h with ⟨k, h⟩ | ⟨p, bt, lt, rfl, b, c⟩
  · exact .no h
  · refine .out (nms := ["zzzzzzzz"]) ⟨b, fun m hm => ?_, by decide, by decide, ln_z (.inr b.l)⟩ ?_
    · rw [List.mem_singleton.mp hm]
      decide +kernel
    · show ((K1.look (bl bs) "zzzzzzzz").isSome && true) = false
      rw [look_bl, c]
      rfl
/-- a link of the two first ends of the only copy -/
theorem LnV.own {H : Hp} {a o1 o2 o3 : Addr} (h : H a = some (.lst [.ref o3]) ∨ H a = some (.tup [.ref o3])) (h3 : H o3 = some (.tup [.ref o1, .ref o2])) (h1 : H o1 = some (.tup [.int 0, .int 0])) (h2 : H o2 = some (.tup [.int 0, .int 1])) : LnV H 1 (.ref a) true :=
  .good (ls := [(0, 0)]) h ⟨by show 1 ≤ 200; decide, [true], rfl, fun i x b p q => match i, p, q with
    | 0, p, q => by
      cases p
      cases q
      rw [show true = HT.lexLt [(0 : Int), 0] [0, 1] by decide]
      exact .good h3 h1 h2 (by decide) (by decide), .inr ⟨rfl, [((0, 0), (0, 1))], rfl, fun i x p g f => match i, g, f with
        | 0, g, f => by cases g; cases f; exact ⟨o1, o2, o3, rfl, h3, h1, h2⟩, by decide +kernel⟩⟩ rfl (fun i x p g f => match i, g, f with
        | 0, g, f => by cases g; cases f; exact ⟨o3, o1, o2, 0, 1, rfl, h3, h1, h2⟩) (fun p hp => by rw [List.mem_singleton.mp hp]; exact ⟨by decide, by decide⟩) fun near hr => ⟨fun _ v hv => by
    have : v = 0 := by omega
    subst this
    exact .me, fun _ => rfl⟩
theorem nil_shT : SeqAt.shaped (.tuple []) = true := by
  unfold SeqAt.shaped
  simp [PyData.canLay0, PyData.canLayAll0, PyData.depth, PyData.depthAll]
theorem eqv_nilT (ds : List PyData) : PyData.eqv (.tuple ds) (.tuple []) = ds.isEmpty := by
  cases ds <;> simp [PyData.eqv, PyData.eqvAll]
theorem isw_q : IsW "q" := ⟨by decide +kernel, by decide +kernel, by decide +kernel⟩
theorem isw_r : IsW "r" := ⟨by decide +kernel, by decide +kernel, by decide +kernel⟩
theorem isw_s : IsW "s" := ⟨by decide +kernel, by decide +kernel, by decide +kernel⟩
theorem one_blk {H : Hp} {ps : List (Str × Str)} {t : Addr} {k : Str} (h : H t = some (.tup [.str k])) (hk : k ∈ ps.map (·.1)) : BlkOk H ps [("q", t)] :=
  ⟨by simp, fun p hp => by rw [List.mem_singleton.mp hp]; exact isw_q, fun p hp => by rw [List.mem_singleton.mp hp]; exact ⟨[k], h, by show 1 ≤ 1; decide, by show 1 ≤ 4; decide, fun e he => by rw [List.mem_singleton.mp he]; exact hk⟩⟩
theorem two_blk {H : Hp} {t u : Addr} (h : H t = some (.tup [.str "r"])) (g : H u = some (.tup [.str "r"])) : BlkOk H [("r", "r")] [("q", t), ("s", u)] := by
  have ne : ¬ ("q" : Str) = "s" := by decide +kernel
  refine ⟨by simp [ne], fun p hp => ?_, fun p hp => ?_⟩
  · rcases List.mem_cons.mp hp with rfl | hp
    · exact isw_q
    · rw [List.mem_singleton.mp hp]; exact isw_s
  · have k : ∀ x, H x = some (.tup [.str "r"]) → ∃ es, Ends H [("r", "r")] x es := fun x hx => ⟨["r"], hx, by decide, by show 1 ≤ 4; decide, fun e he => by rw [List.mem_singleton.mp he]; simp⟩
    rcases List.mem_cons.mp hp with rfl | hp
    · exact k _ h
    · rw [List.mem_singleton.mp hp]; exact k _ g
theorem rr_part : PartOk [("r", "r")] := ⟨by simp, fun p hp => by rw [List.mem_singleton.mp hp]; exact isw_r, fun p hp => by rw [List.mem_singleton.mp hp]; simp⟩
/-- .. none of the names is on it -/
theorem out_q {nms : List Str} {t : Addr} (h : ("q" : Str) ∉ nms) (n1 : 1 ≤ nms.length) : nms.all (fun m => (K1.look (bl [("q", t)]) m).isSome) = false := by
  cases nms with
  | nil => exact absurd n1 (by decide)
  | cons m r =>
    have hm : ¬ ("q" : Str) = m := fun e => h (by rw [e]; exact List.mem_cons_self ..)
    have : K1.look (bl [("q", t)]) m = none := by
      rw [look_bl]
      have : K1.look [(("q" : Str), t)] m = none := look_none (by simpa using fun e => hm e.symm)
      rw [this]
      rfl
    rw [List.all_cons, this]
    rfl
theorem look_qs {t u : Addr} {m : Str} (h : (K1.look (bl [("q", t), ("s", u)]) m).isSome = true) : K1.look (bl [("q", t), ("s", u)]) m = some (.ref t) ∨ K1.look (bl [("q", t), ("s", u)]) m = some (.ref u) := by
  cases e : K1.look (bl [("q", t), ("s", u)]) m with
  | none => rw [e] at h; cases h
  | some v =>
    have := look_mem e
    unfold bl at this
    simp at this
    rcases this with ⟨_, rfl⟩ | ⟨_, rfl⟩
    · exact .inl rfl
    · exact .inr rfl
end K1

set_option Elab.async false
set_option linter.all false
set_option maxRecDepth 100000
set_option maxHeartbeats 0
namespace K1
open PySem PySem.Spec PyProof.Rows L2
open PySem.W (dataLe dataLt)
abbrev sLaw : Stmt := topS 56
theorem scLaw : FnScope ["script", "draw", "told", "blocks", "links", "given", "more", "end", "free", "amounts", "name", "one", "found", "other", "wrong", "ends", "bad", "pair", "piece", "sheet"] ["script"] (defScope sLaw) := ⟨rfl, rfl, rfl, by decide +kernel, rfl, by decide +kernel, by decide +kernel⟩
section
variable {P : Program} {w : World} {K : PySem.W.Frag} {mg : Str → Option Value} {base : Heap}
def spLaw (K : PySem.W.Frag) (Pt : Addr) : Sp := fun vs H Q _ => ∃ (a : Addr) (ns : List Int), vs = [.ref a] ∧ SqL K H a (ns.map V.int) ∧ ns.length ≤ 63 ∧ H Pt = some (.tbl #[]) ∧ ∀ H', Q (.bl true) H'
theorem ok_law {f oX oS oP oF oA oR oG oI oK oE : Addr} {fX fS fP fF fA fR fG fI' fK fE : FuncData} {C CP CB CE fI fJ gL gQ : Addr} {fdI fdJ dL dQ : FuncData}
    {oc doc kV pm ct : Value} {od an : Option Addr} {osl : Array (Option Value)} {c Pt g : Addr} {oc2 kV2 doc2 pm2 cd2 ct2 : Value} {od2 an2 : Option Addr} {osl2 : Array (Option Value)}
    (lk : K.lookup f = some ⟨oc, od, .func (PySem.W.fnOf "law" "law" (defArgs sLaw) (defBody sLaw) (defScope sLaw) .none kV doc pm an (.ref c) ct), osl⟩) (hcd : PySem.W.codeIn K (.ref c) "law" = true)
    (nx : Df P w K mg base CX0 3 "_law_next" sNext ["draw", "bound"] spNext oX fX) (sh : Df P w K mg base CX0 8 "_law_sheet" sSheet ["draw", "joints", "many", "top"] spSheet oS fS)
    (lp : Df P w K mg base CX0 5 "_law_piece" sLPiece ["draw", "sheet", "top", "odds"] spLPiece oP fP) (lf : Df P w K mg base CX0 2 "_law_free" sLFree ["sheet", "blocks", "links"] spLFree oF fF)
    (am : Df P w K mg base (L2.CX P w) 8 "amounts_of" sAmts ["sheet", "piece"] (spAmts C CP CB CE) oA fA) (fr : Df P w K mg base (L2.CX P w) 8 "free_ends" sFree ["sheet", "piece"] (spFree C CP CB CE) oR fR)
    (rg : Df P w K mg base (L2.CX P w) 8 "rings" sRings ["sheet", "piece"] (spRings C CP CB CE) oG fG) (ip : Df P w K mg base (L2.CX P w) 6 "is_piece_of" sIsPc ["sheet", "piece"] (spIsPc C CP CB) oI fI')
    (pk_ : Df P w K mg base CX0 4 "_law_pick" sPick ["draw", "things"] (spPick K) oK fK) (so : Df P w K mg base CX0 1 "_law_spoilt" sSpoilt ["blocks", "links"] spSpoilt oE fE)
    (Bt : Bi mg) (S : ClsS K mg C) (M : Mk K C fI) (GI : FnOk P w K mg base (L2.CX P w) 4 fI fdI ["self", "partners", "blocks"] (spInit P w C CB)) (bI : Binds K fdI ["self", "partners", "blocks"] [])
    (SP : ClsP K mg CP) (MP : Mk K CP fJ) (GJ : FnOk P w K mg base (L2.CX P w) 6 fJ fdJ ["self", "blocks", "links"] (spPInit CP CE)) (bJ : Binds K fdJ ["self", "blocks", "links"] [])
    (plen : Md P w K mg base CX0 1 CP "__len__" ["self"] (spPLen CP) gL dL) (peq : Md P w K mg base CX0 1 CP "__eq__" ["self", "other"] (spPEq K CP) gQ dQ) (pO : PySem.W.plainOver K CP = true) (nE : PySem.W.findIn K (.ref CP) "__ne__" = some (some (.builtin "object.__ne__")))
    (TB : LamX.TabB base mg c Pt) (mE : mg "_law_error" = some (.ref g)) (kE : PySem.W.keepIn K (.ref g) = true)
    (lkE : K.lookup g = some ⟨oc2, od2, .func (PySem.W.fnOf "_law_error" "_law_error" (defArgs sErr) (defBody sErr) (defScope sErr) .none kV2 doc2 pm2 an2 cd2 ct2), osl2⟩) (hcE : PySem.W.codeIn K cd2 "_law_error" = true)
    (bE : Binds K (PySem.W.fnOf "_law_error" "_law_error" (defArgs sErr) (defBody sErr) (defScope sErr) .none kV2 doc2 pm2 an2 cd2 ct2) ["work"] [])
    (gS : mg "BadSheet" = some (.ref CB)) (gP : mg "BadPiece" = some (.ref CE)) (Ex : Exm K CB CE) :
    FnOk P w K mg base CX0 11 f (PySem.W.fnOf "law" "law" (defArgs sLaw) (defBody sLaw) (defScope sLaw) .none kV doc pm an (.ref c) ct) ["script"] (spLaw K Pt) := by
  refine fn_of lk hcd scLaw (fun vs H Q E h => ?_) (fun A outer s H vs Q E hr h => ?_)
  · obtain ⟨a, ns, rfl, _⟩ := h
    rfl
  · obtain ⟨a, ns, rfl, ha, hlen, hTb, q⟩ := h
    have hu := hu_of hr
    have h64 := h64_of hr
    have hu1 : (A.deeper (envOfC "law" (defScope sLaw) s.heap.objs.size f (.ref c))).units < cLine := by have := hr.un; omega
    suffices hh : ∃ t, PSs (cxOf CX0 P w K mg base ["script", "draw", "told", "blocks", "links", "given", "more", "end", "free", "amounts", "name", "one", "found", "other", "wrong", "ends", "bad", "pair", "piece", "sheet"] "law" (defScope sLaw) f (.ref c) A outer s H E).nox (defBody sLaw) t ∧ t { nx := fun _ H' => Q .non H', rt := Q } (L2.start _ _) H by
      obtain ⟨t, h1, h2⟩ := hh
      exact ⟨t, h1.nox, h2⟩
    obtain ⟨qn, hqn⟩ : ∃ qn, qn = (cxOf CX0 P w K mg base ["script", "draw", "told", "blocks", "links", "given", "more", "end", "free", "amounts", "name", "one", "found", "other", "wrong", "ends", "bad", "pair", "piece", "sheet"] "law" (defScope sLaw) f (.ref c) A outer s H E).nox.env.qual ++ "<lambda>" := ⟨_, rfl⟩
    refine ⟨_, (pss_cons (ps_set (i := 1) scLaw.nd rfl (.inl rfl) (pe_lst (pa_cons (pe_slice sl_list (pv 0) po_none (po_some pe_int)) (pa_cons pe_int (pa_cons pe_int pa_nil)))))
      (pss_cons (ps_set (i := 2) scLaw.nd rfl (.inl rfl) (pe_call sh.G (hr.mono (by decide)) (by rfl) sh.d.m sh.d.F.kp sh.d.b .nil pass0 (pa_cons (pv 1) (pa_cons (pe_op op_add pe_int (pe_call nx.G (hr.mono (by decide)) (by rfl) nx.d.m nx.d.F.kp nx.d.b .nil pass0 (pa_cons (pv 1) (pa_cons pe_int pa_nil)))) (pa_cons (pe_op op_add pe_int (pe_call nx.G (hr.mono (by decide)) (by rfl) nx.d.m nx.d.F.kp nx.d.b .nil pass0 (pa_cons (pv 1) (pa_cons pe_int pa_nil)))) (pa_cons pe_int pa_nil))))))
      (pss_cons (ps_asg (pe_call lp.G (hr.mono (by decide)) (by rfl) lp.d.m lp.d.F.kp lp.d.b .nil pass0 (pa_cons (pv 1) (pa_cons (pv 2) (pa_cons (pe_op op_add pe_int (pe_call nx.G (hr.mono (by decide)) (by rfl) nx.d.m nx.d.F.kp nx.d.b .nil pass0 (pa_cons (pv 1) (pa_cons pe_int pa_nil)))) (pa_cons pe_int pa_nil))))) (pg_unl rfl (pgs_cons (pg_name (i := 3) scLaw.nd rfl (.inl rfl)) (pgs_cons (pg_name (i := 4) scLaw.nd rfl (.inl rfl)) pgs_nil))))
      (pss_cons (ps_asg (pe_tup (pa_cons (pe_make M GI (hr.mono (by decide)) (by rfl) S.g bI .nil passF (pa_cons (pe_ix ix_list (pv 2) pe_int (fun _ _ => rfl)) (pa_cons (pe_ix ix_list (pv 2) pe_int (fun _ _ => rfl)) pa_nil))) (pa_cons (pe_callTy call_list2 (by rfl) Bt.list boot_list (pa_cons (pv 3) pa_nil)) (pa_cons (pe_callTy call_list2 (by rfl) Bt.list boot_list (pa_cons (pv 4) pa_nil)) pa_nil)))) (pg_tup rfl (pgs_cons (pg_name (i := 19) scLaw.nd rfl (.inr rfl)) (pgs_cons (pg_name (i := 5) scLaw.nd rfl (.inl rfl)) (pgs_cons (pg_name (i := 6) scLaw.nd rfl (.inl rfl)) pgs_nil)))))
      (pss_cons (ps_set (i := 18) scLaw.nd rfl (.inr rfl) (pe_make MP GJ (hr.mono (by decide)) (by rfl) SP.g bJ .nil passF (pa_cons (pv 5) (pa_cons (pv 6) pa_nil))))
      (pss_cons (ps_expr (pe_bm PySem.F.plainAttrs_list PySem.F.slot_list_append PySem.F.type_list_append mt_append (pv 5) (pa_cons pe_str pa_nil)))
      (pss_cons (ps_expr (pe_bm PySem.F.plainAttrs_list PySem.F.slot_list_append PySem.F.type_list_append mt_append (pv 6) (pa_cons (pe_tup (pa_cons (pe_tup (pa_cons pe_int (pa_cons pe_int pa_nil))) (pa_cons (pe_tup (pa_cons pe_int (pa_cons pe_int pa_nil))) pa_nil))) pa_nil)))
      (pss_cons (ps_if (PW.pt (pw_or (pt_cmpR (op_neD h64) (pe_fld (pv 18) rfl) (pv 3) (nomark _)) (pw_or (pt_cmpR (op_neD h64) (pe_fld (pv 18) rfl) (pv 4) (nomark _)) (pw_or (pt_cmpR op_ne (pe_callB (call_lenOwn plen.G plen.m.at_ plen.m.fn plen.b pass0 (hr.mono (by decide))) (by rfl) Bt.len PySem.boot_len (pa_cons (pv 18) pa_nil)) (pe_callB call_len2 (by rfl) Bt.len PySem.boot_len (pa_cons (pv 3) pa_nil)) (nomark _)) (pw_or1 (pt_cmpR (op_neOwn peq.G pO nE peq.m.at_ peq.m.fn peq.b pass0 (hr.mono (by decide))) (pv 18) (pe_make MP GJ (hr.mono (by decide)) (by rfl) SP.g bJ .nil passF (pa_cons (pv 3) (pa_cons (pv 4) pa_nil))) (nomark _))))))) (pss_one (ps_ret pe_bl)) pss_nil)
      (pss_cons (ps_setLc (i := 8) (own := [("end", 7)]) (g := gName 7) (tt := tYes) rfl scLaw.nd rfl rfl (sw_true rfl rfl rfl (by decide +kernel)) (pi_list (pe_call lf.G (hr.mono (by decide)) (by rfl) lf.d.m lf.d.F.kp lf.d.b .nil pass0 (pa_cons (pv 2) (pa_cons (pv 3) (pa_cons (pv 4) pa_nil)))))
            (blkOk_by (own := [("end", 7)]) (N := ["script", "draw", "told", "blocks", "links", "given", "more", "end", "free", "amounts", "name", "one", "found", "other", "wrong", "ends", "bad", "pair", "piece", "sheet"]) (sc := defScope sLaw) (by decide +kernel)) (fun _ _ _ _ _ => pg_name (i := 7) scLaw.nd rfl (.inl rfl))
            (fun _ _ _ _ _ => pts_nil) (fun _ _ _ _ _ => (pe_tup (pa_cons (pe_ix (show IxR _ (rIxT K) from ix_tup) (pv 7) pe_int (fun _ _ => rfl)) (pa_cons (pe_ix (show IxR _ (rIxT K) from ix_tup) (pv 7) pe_int (fun _ _ => rfl)) pa_nil)))))
      (pss_cons (ps_set (i := 9) scLaw.nd rfl (.inl rfl) pe_dnewK)
      (pss_cons (ps_for PassesOwn.never rfl (pi_list (pe_callB (call_sortedT h64) (by rfl) Bt.sorted boot_sorted (pa_cons (pv 3) pa_nil))) (pg_name (i := 10) scLaw.nd rfl (.inr rfl))
        (pss_one (ps_dput hu (pv 9) (pv 10) (pe_callB call_len_seq (by rfl) Bt.len PySem.boot_len (pa_cons (pe_lc (own := [("one", 11)]) (g := gName 11) rfl scLaw.nd (pi_tup (pv 3)) (blkOk_by (own := [("one", 11)]) (N := ["script", "draw", "told", "blocks", "links", "given", "more", "end", "free", "amounts", "name", "one", "found", "other", "wrong", "ends", "bad", "pair", "piece", "sheet"]) (sc := defScope sLaw) (by decide +kernel))
          (fun _ _ _ _ _ => pg_name (i := 11) scLaw.nd rfl (.inl rfl)) (fun _ _ _ _ _ => pts_one (pt_cmpR op_eq (pv 11) (pv 10) (nomark _))) (fun _ _ _ _ _ => pv 11)) pa_nil)) rfl)))
      (pss_cons (ps_set (i := 12) scLaw.nd rfl (.inl rfl) (pe_call am.G (hr.mono (by decide)) (by rfl) am.d.m am.d.F.kp am.d.b .nil passF (pa_cons (pv 19) (pa_cons (pv 18) pa_nil))))
      (pss_cons (ps_if (PW.pt (pw_or (pt_cmpR (op_neD h64) (pe_call fr.G (hr.mono (by decide)) (by rfl) fr.d.m fr.d.F.kp fr.d.b .nil passF (pa_cons (pv 19) (pa_cons (pv 18) pa_nil))) (pv 8) (nomark _)) (pw_or (pt_cmpR op_ne (pe_call rg.G (hr.mono (by decide)) (by rfl) rg.d.m rg.d.F.kp rg.d.b .nil passF (pa_cons (pv 19) (pa_cons (pv 18) pa_nil))) (pe_op op_add (pe_op op_sub (pe_callB call_len2 (by rfl) Bt.len PySem.boot_len (pa_cons (pv 4) pa_nil)) (pe_callB call_len2 (by rfl) Bt.len PySem.boot_len (pa_cons (pv 3) pa_nil))) pe_int) (nomark _)) (pw_or1 (pt_cmpR (op_ne_dictA hu1) (pv 12) (pv 9) (nomark _)))))) (pss_one (ps_ret pe_bl)) pss_nil)
      (pss_cons (ps_if (PW.pt (pw_or (pt_cmpR (op_neD h64) (pe_callTy (call_listD rfl) (by rfl) Bt.list boot_list (pa_cons (pv 12) pa_nil)) (pe_callB (call_sortedD rfl) (by rfl) Bt.sorted boot_sorted (pa_cons (pv 12) pa_nil)) (nomark _)) (pw_or1 (pt_not (pt_val (pe_call ip.G (hr.mono (by decide)) (by rfl) ip.d.m ip.d.F.kp ip.d.b .nil passF (pa_cons (pv 19) (pa_cons (pv 18) pa_nil)))))))) (pss_one (ps_ret pe_bl)) pss_nil)
      (pss_cons (ps_for PassesOwn.never rfl (pi_list (pe_call so.G (hr.mono (by decide)) (by rfl) so.d.m so.d.F.kp so.d.b .nil pass0 (pa_cons (pv 3) (pa_cons (pv 4) pa_nil)))) (pg_name (i := 17) scLaw.nd rfl (.inr rfl))
        (pss_one (ps_if (pt_cmpR op_ne (LamX.pe_lamcall (T := [(Pt, qn)]) (by rfl) mE kE lkE hcE bE scErr rfl (.inl rfl) (err_gives gS gP Ex) TB rfl (List.mem_singleton.mpr (by rw [hqn])) (fun p hp _ => by rw [List.mem_singleton.mp hp]; exact hqn) (hr.mono (by decide) : Room (8 + 2) _) (show LamX.LamS (defScope sLaw) _ from LamX.lamS_by (by decide +kernel)) rfl (fun _ _ _ _ _ => rfl)
          (fun A outer s H E f c' hr' => (pe_make MP GJ (hr'.mono (by decide)) (by rfl) SP.g bJ .nil (passes_call (takes_of rfl rfl rfl rfl) (fun _ _ _ _ h => h)) (pa_cons (pe_ix (show IxR _ (rIxL K) from ix_list) (pv 17) pe_int (fun _ _ => rfl)) (pa_cons (pe_ix (show IxR _ (rIxL K) from ix_list) (pv 17) pe_int (fun _ _ => rfl)) pa_nil))))) pe_str (nomark _)) (pss_one (ps_ret pe_bl)) pss_nil)))
      (pss_cons (ps_set (i := 13) scLaw.nd rfl (.inl rfl) (pe_ifExp (pt_cmpR op_notIn_seq pe_str (pv 3) (by rfl)) (pe_make M GI (hr.mono (by decide)) (by rfl) S.g bI .nil passF (pa_cons (pe_ix ix_list (pv 2) pe_int (fun _ _ => rfl)) (pa_cons (pe_disp (pps_cons pe_str (pe_tup (pa_cons (pe_ix ix_list (pe_callB (call_sortedD rfl) (by rfl) Bt.sorted boot_sorted (pa_cons (pe_ix ix_list (pv 2) pe_int (fun _ _ => rfl)) pa_nil)) pe_int (fun _ _ => rfl)) pa_nil)) pps_nil) rfl rfl (by decide) (by decide)) pa_nil))) (pe_make M GI (hr.mono (by decide)) (by rfl) S.g bI .nil passF (pa_cons (pe_disp (pps_cons pe_str pe_str pps_nil) rfl rfl (by decide) (by decide)) (pa_cons (pe_disp (pps_cons pe_str (pe_tup (pa_cons pe_str pa_nil)) (pps_cons pe_str (pe_tup (pa_cons pe_str pa_nil)) pps_nil)) rfl rfl (by decide) (by decide)) pa_nil)))))
      (pss_cons (ps_set (i := 14) scLaw.nd rfl (.inl rfl) (pe_call pk_.G (hr.mono (by decide)) (by rfl) pk_.d.m pk_.d.F.kp pk_.d.b .nil pass0 (pa_cons (pv 1) (pa_cons (pe_lst (pa_cons pe_non (pa_cons (pe_tup (pa_cons (pv 3) (pa_cons (pv 4) pa_nil))) (pa_cons pe_int (pa_cons (pe_make MP GJ (hr.mono (by decide)) (by rfl) SP.g bJ .nil passF (pa_cons (pe_op op_rep (pe_lst (pa_cons (pe_op op_z8 pe_str pe_int) pa_nil)) pe_int) (pa_cons (pe_lst pa_nil) pa_nil))) pa_nil))))) pa_nil))))
      (pss_cons (ps_if (pt_cmp (pc_din hu (pe_op op_z8 pe_str pe_int) (pe_ix ix_list (pv 2) pe_int (fun _ _ => rfl)))) (pss_one (ps_set (i := 14) scLaw.nd rfl (.inl rfl) pe_non)) pss_nil)
      (pss_cons (ps_for PassesOwn.never rfl (pi_tup (pe_tup (pa_cons (pv 14) (pa_cons pe_str pa_nil)))) (pg_name (i := 16) scLaw.nd rfl (.inr rfl))
        (pss_cons (ps_if (PW.pt (pw_or (pt_val (pe_call ip.G (hr.mono (by decide)) (by rfl) ip.d.m ip.d.F.kp ip.d.b .nil passF (pa_cons (pv 19) (pa_cons (pv 16) pa_nil)))) (pw_or1 (pt_cmpR op_ne (LamX.pe_lamcall (T := [(Pt, qn)]) (by rfl) mE kE lkE hcE bE scErr rfl (.inl rfl) (err_gives gS gP Ex) TB rfl (List.mem_singleton.mpr (by rw [hqn])) (fun p hp _ => by rw [List.mem_singleton.mp hp]; exact hqn) (hr.mono (by decide) : Room (8 + 2) _) (show LamX.LamS (defScope sLaw) _ from LamX.lamS_by (by decide +kernel)) rfl (fun _ _ _ _ _ => rfl)
          (fun A outer s H E f c' hr' => (pe_call fr.G (hr'.mono (by decide)) (by rfl) fr.d.m fr.d.F.kp fr.d.b .nil (passes_call (takes_of rfl rfl rfl rfl) (fun _ _ _ _ h => h)) (pa_cons (pv 19) (pa_cons (pv 16) pa_nil))))) pe_str (nomark _))))) (pss_one (ps_ret pe_bl)) pss_nil)
        (pss_cons (ps_if (pt_cmpR op_ne (LamX.pe_lamcall (T := [(Pt, qn)]) (by rfl) mE kE lkE hcE bE scErr rfl (.inl rfl) (err_gives gS gP Ex) TB rfl (List.mem_singleton.mpr (by rw [hqn])) (fun p hp _ => by rw [List.mem_singleton.mp hp]; exact hqn) (hr.mono (by decide) : Room (8 + 2) _) (show LamX.LamS (defScope sLaw) _ from LamX.lamS_by (by decide +kernel)) rfl (fun _ _ _ _ _ => rfl)
          (fun A outer s H E f c' hr' => (pe_call rg.G (hr'.mono (by decide)) (by rfl) rg.d.m rg.d.F.kp rg.d.b .nil (passes_call (takes_of rfl rfl rfl rfl) (fun _ _ _ _ h => h)) (pa_cons (pv 19) (pa_cons (pv 16) pa_nil))))) pe_str (nomark _)) (pss_one (ps_ret pe_bl)) pss_nil)
        (pss_one (ps_if (pt_cmpR op_ne (LamX.pe_lamcall (T := [(Pt, qn)]) (by rfl) mE kE lkE hcE bE scErr rfl (.inl rfl) (err_gives gS gP Ex) TB rfl (List.mem_singleton.mpr (by rw [hqn])) (fun p hp _ => by rw [List.mem_singleton.mp hp]; exact hqn) (hr.mono (by decide) : Room (8 + 2) _) (show LamX.LamS (defScope sLaw) _ from LamX.lamS_by (by decide +kernel)) rfl (fun _ _ _ _ _ => rfl)
          (fun A outer s H E f c' hr' => (pe_call am.G (hr'.mono (by decide)) (by rfl) am.d.m am.d.F.kp am.d.b .nil (passes_call (takes_of rfl rfl rfl rfl) (fun _ _ _ _ h => h)) (pa_cons (pv 19) (pa_cons (pv 16) pa_nil))))) pe_str (nomark _)) (pss_one (ps_ret pe_bl)) pss_nil)))))
      (pss_cons (ps_if (pt_cmpR op_ne (LamX.pe_lamcall (T := [(Pt, qn)]) (by rfl) mE kE lkE hcE bE scErr rfl (.inl rfl) (err_gives gS gP Ex) TB rfl (List.mem_singleton.mpr (by rw [hqn])) (fun p hp _ => by rw [List.mem_singleton.mp hp]; exact hqn) (hr.mono (by decide) : Room (8 + 2) _) (show LamX.LamS (defScope sLaw) _ from LamX.lamS_by (by decide +kernel)) rfl (fun _ _ _ _ _ => rfl)
          (fun A outer s H E f c' hr' => (pe_call rg.G (hr'.mono (by decide)) (by rfl) rg.d.m rg.d.F.kp rg.d.b .nil (passes_call (takes_of rfl rfl rfl rfl) (fun _ _ _ _ h => h)) (pa_cons pe_non (pa_cons (pv 16) pa_nil))))) pe_str (nomark _)) (pss_one (ps_ret pe_bl)) pss_nil)
      (pss_cons (ps_if (pt_cmpR op_ne (LamX.pe_lamcall (T := [(Pt, qn)]) (by rfl) mE kE lkE hcE bE scErr rfl (.inl rfl) (err_gives gS gP Ex) TB rfl (List.mem_singleton.mpr (by rw [hqn])) (fun p hp _ => by rw [List.mem_singleton.mp hp]; exact hqn) (hr.mono (by decide) : Room (8 + 2) _) (show LamX.LamS (defScope sLaw) _ from LamX.lamS_by (by decide +kernel)) rfl (fun _ _ _ _ _ => rfl)
          (fun A outer s H E f c' hr' => (pe_call ip.G (hr'.mono (by decide)) (by rfl) ip.d.m ip.d.F.kp ip.d.b .nil (passes_call (takes_of rfl rfl rfl rfl) (fun _ _ _ _ h => h)) (pa_cons pe_dnewK (pa_cons (pv 18) pa_nil))))) pe_str (nomark _)) (pss_one (ps_ret pe_bl)) pss_nil)
      (pss_cons (ps_set (i := 15) scLaw.nd rfl (.inl rfl) (pe_dget hu (pe_ix ix_list (pv 2) pe_int (fun _ _ => rfl)) (pe_ix ix_tup (pv 3) pe_int (fun _ _ => rfl)) (fun _ _ => rfl)))
      (pss_cons (ps_if (PW.pt (pw_and (pt_cmpR op_eq (pe_callB call_len2 (by rfl) Bt.len PySem.boot_len (pa_cons (pv 3) pa_nil)) pe_int (nomark _)) (pw_and (pt_cmpR (op_eqD h64) (pv 4) (pe_tup pa_nil) (nomark _)) (pw_and (pt_cmpR op_gt (pe_callB call_len2 (by rfl) Bt.len PySem.boot_len (pa_cons (pv 15) pa_nil)) pe_int (nomark _)) (pw_and1 (pt_cmpR op_ne (pe_dget hu (pe_ix ix_list (pv 2) pe_int (fun _ _ => rfl)) (pe_ix ix_tup (pv 15) pe_int (fun _ _ => rfl)) (fun _ _ => rfl)) (pe_ix ix_tup (pv 15) pe_int (fun _ _ => rfl)) (nomark _))))))) (pss_one (ps_if (pt_val (pe_call ip.G (hr.mono (by decide)) (by rfl) ip.d.m ip.d.F.kp ip.d.b .nil passF (pa_cons (pv 19) (pa_cons (pe_make MP GJ (hr.mono (by decide)) (by rfl) SP.g bJ .nil passF (pa_cons (pv 3) (pa_cons (pe_lst (pa_cons (pe_tup (pa_cons (pe_tup (pa_cons pe_int (pa_cons pe_int pa_nil))) (pa_cons (pe_tup (pa_cons pe_int (pa_cons pe_int pa_nil))) pa_nil))) pa_nil)) pa_nil))) pa_nil)))) (pss_one (ps_ret pe_bl)) pss_nil)) pss_nil)
      (pss_one (ps_ret (pe_or (pe_not (pe_call ip.G (hr.mono (by decide)) (by rfl) ip.d.m ip.d.F.kp ip.d.b .nil passF (pa_cons (pv 13) (pa_cons (pv 18) pa_nil)))) (pe_one (pe_cmpR op_in_seq pe_str (pv 3) (by rfl))))))))))))))))))))))))))))), ?_⟩
    -- draw
    obtain ⟨ms, hms⟩ : ∃ ms : List Int, cutV (ns.map V.int) none (some 63) = ms.map V.int := ⟨_, by unfold cutV; rw [← List.map_drop, ← List.map_take]⟩
    refine ⟨_, rfl, 63, rfl, a, _, rfl, ha, fun sc nsc => ?_⟩
    rw [hms]
    have sa : Same H (upd H sc (HO.lst (ms.map V.int))) := same_upd nsc
    have ea : (upd H sc (HO.lst (ms.map V.int))) sc = some (HO.lst (ms.map V.int)) := upd_same
    generalize (upd H sc (HO.lst (ms.map V.int))) = Ha at sa ea ⊢
    refine ⟨Nat.le_of_lt (small1000 (n := 3) (by decide)), fun d nd => ?_⟩
    have sb : Same Ha (upd Ha d (HO.lst [V.ref sc, V.int 0, V.int 0])) := same_upd nd
    have eb : (upd Ha d (HO.lst [V.ref sc, V.int 0, V.int 0])) d = some (HO.lst [V.ref sc, V.int 0, V.int 0]) := upd_same
    generalize (upd Ha d (HO.lst [V.ref sc, V.int 0, V.int 0])) = Hb at sb eb ⊢
    have Db : DrawAt Hb d sc := ⟨⟨ms, 0, eb, sb _ _ ea, Int.le_refl _⟩, ne_of_none ea nd⟩
    have tb : LamX.TabS Hb Pt qn := LamX.TabS.nil ((sa.trans sb) _ _ hTb)
    clear ha hTb sa sb ea eb nd nsc
    -- told
    refine ⟨_, rfl, ?_⟩
    refine ⟨_, rfl, d, sc, 2, rfl, Db, by decide, fun r1 Hc a1 b1 Dc kc => ⟨_, _, rfl, rfl, ?_⟩⟩
    refine ⟨_, rfl, d, sc, 4, rfl, Dc, by decide, fun r2 Hd a2 b2 Dd kd => ⟨_, _, rfl, rfl, ?_⟩⟩
    refine ⟨d, sc, _, _, _, rfl, Dd, by omega, by omega, by omega, by omega, by decide, by decide, fun T A' B ps bs He hS nT nA nB De ke => ?_⟩
    have nTd := Dd.nd nT
    have te : LamX.TabS He Pt qn := tab_kp (tab_kp (tab_kp tb Db kc) Dc kd) Dd ke
    clear tb Db Dc Dd kc kd ke nA nB nT a1 b1 a2 b2
    -- blocks, links
    refine ⟨_, rfl, _, rfl, ?_⟩
    refine ⟨_, rfl, d, sc, 7, rfl, De, by decide, fun r3 Hf a3 b3 Df kf => ⟨_, _, rfl, rfl, ?_⟩⟩
    refine ⟨d, sc, T, A', B, _, _, ps, bs, rfl, Df, hS.kp De nTd kf, nTd, by omega, by omega, by decide, fun M' BT LT nms ess ys Hg nM hP Dg kg => ?_⟩
    have hSg := (hS.kp De nTd kf).kp Df nTd kg
    have tg : LamX.TabS Hg Pt qn := tab_kp (tab_kp te De kf) Df kg
    have hw : ∀ p ∈ bs, IsW p.1 := hSg.O.wd
    have nMd : M' ≠ d := Df.nd nM
    clear hS te De Df kf kg a3 b3 nM
    refine ⟨M', _, rfl, SqL.of hP.m, rfl, _, _, rfl, _, _, rfl, rfl, ?_⟩
    -- sheet, given, more
    refine ⟨_, rfl, T, _, 0, _, rfl, rfl, SqL.of hSg.t, at_of (j := 0) rfl rfl, _, rfl, T, _, 1, _, rfl, rfl, SqL.of hSg.t, at_of (j := 1) rfl rfl, fun SH dx nSH ndx nds => ?_⟩
    have w3 : Same Hg (upd (upd Hg dx (.own SH)) SH (.ins C dx [])) := fun b o e => by rw [upd_ne (ne_of_none e nSH), upd_ne (ne_of_none e ndx)]; exact e
    refine init_ok upd_same (w3 _ _ hSg.a) (w3 _ _ hSg.b) hSg.P hSg.p0 hSg.p8 (hSg.O.same fun b xs e => w3 _ _ e) hSg.b8 hSg.nAB.symm (fun pp bp np H4 hA k4 => ⟨rfl, ?_⟩)
    have v3 : Same Hg H4 := fun b o e => k4 b o (ne_of_none e nSH) (w3 _ _ e)
    have hS4 := hSg.same v3
    have hP4 := hP.same v3
    have D4 := Dg.same v3
    have t4 := tab_sm tg v3
    clear w3 k4 v3 nSH ndx nds hSg tg Dg hP
    refine ⟨_, rfl, BT, _, rfl, .inr hP4.b, fun G nG => ?_⟩
    have s5 : Same H4 (upd H4 G (.lst (nms.map V.str))) := same_upd nG
    have e5 : (upd H4 G (.lst (nms.map V.str))) G = some (.lst (nms.map V.str)) := upd_same
    generalize (upd H4 G (.lst (nms.map V.str))) = H5 at s5 e5 ⊢
    refine ⟨_, rfl, LT, _, rfl, .inr (s5 _ _ hP4.l), fun MO nMO => ?_⟩
    have s6 : Same H5 (upd H5 MO (.lst (ys.map lkR))) := same_upd nMO
    have e6 : (upd H5 MO (.lst (ys.map lkR))) MO = some (.lst (ys.map lkR)) := upd_same
    have e5' := s6 _ _ e5
    have nGM : G ≠ MO := ne_of_none e5 nMO
    generalize (upd H5 MO (.lst (ys.map lkR))) = H6 at s6 e6 e5' ⊢
    refine ⟨Nat.le_of_lt (small1000 (n := 3) (by decide)), fun TT nTT => ?_⟩
    have s7 : Same H6 (upd H6 TT (.tup [.ref SH, .ref G, .ref MO])) := same_upd nTT
    have e7 : (upd H6 TT (.tup [.ref SH, .ref G, .ref MO])) TT = some (.tup [.ref SH, .ref G, .ref MO]) := upd_same
    generalize (upd H6 TT (.tup [.ref SH, .ref G, .ref MO])) = H7 at s7 e7 ⊢
    refine ⟨TT, _, rfl, SqT.of e7, rfl, _, _, rfl, _, _, rfl, _, _, rfl, rfl, ?_⟩
    -- piece
    have eG := s7 _ _ e5'
    have eM := s7 _ _ e6
    have s47 : Same H4 H7 := (s5.trans s6).trans s7
    have nMO4 : H4 MO = none := s5.free nMO
    clear s5 s6 s7 e5 e6 e7 e5' nTT nMO
    refine ⟨_, rfl, _, rfl, fun PC dx2 nPC ndx2 nds2 => ?_⟩
    have w8 : Same H7 (upd (upd H7 dx2 (.own PC)) PC (.ins CP dx2 [])) := fun b o e => by rw [upd_ne (ne_of_none e nPC), upd_ne (ne_of_none e ndx2)]; exact e
    have hP8 := (hP4.same s47).same w8
    refine piece_ok upd_same (hP8.cp hw (.inl (w8 _ _ eG))) (.inl (w8 _ _ eG)) (by rw [List.length_map]; exact hP8.n1) (by rw [List.length_map]; have := hP8.n7; omega) (by rw [List.length_map]; exact hP8.ln (.inl (w8 _ _ eM))) (.inl (w8 _ _ eM)) (fun bt lt H9 hA9 k9 => ⟨rfl, ?_⟩)
    have s79 : Same H7 H9 := fun b o e => k9 b o (ne_of_none e nPC) (w8 _ _ e)
    have eG9 := s79 _ _ eG
    have eM9 := s79 _ _ eM
    have s49 : Same H4 H9 := s47.trans s79
    clear s47 s79 eG eM w8 k9 hP8 nPC ndx2 nds2
    -- given.append('a')
    refine ⟨_, rfl, .inl ⟨rfl, _, SqL.of eG9⟩, G, _, .str "a", rfl, rfl, eG9, by rw [List.length_map]; exact small1000 (by have := hP4.n7; omega), ?_⟩
    refine ⟨_, rfl, .inl ⟨rfl, _, SqL.of (by rw [upd_ne nGM.symm]; exact eM9)⟩, Nat.le_of_lt (small1000 (n := 2) (by decide)), fun q1 nq1 => ⟨Nat.le_of_lt (small1000 (n := 2) (by decide)), fun q2 nq2 => ⟨Nat.le_of_lt (small1000 (n := 2) (by decide)), fun q3 nq3 => ?_⟩⟩⟩
    have x1 : ∀ c o, c ≠ G → H9 c = some o → (upd H9 G (.lst (nms.map V.str ++ [.str "a"]))) c = some o := fun c o n e => by rw [upd_ne n]; exact e
    generalize (upd H9 G (.lst (nms.map V.str ++ [.str "a"]))) = Ha at x1 nq1 nq2 nq3 ⊢
    have x2 := same_upd (o := .tup [.int 0, .int 0]) nq1
    generalize (upd Ha q1 (.tup [.int 0, .int 0])) = Hb at x2 nq2 nq3 ⊢
    have x3 := same_upd (o := .tup [.int 0, .int 1]) nq2
    generalize (upd Hb q2 (.tup [.int 0, .int 1])) = Hc at x3 nq3 ⊢
    have x4 := same_upd (o := .tup [.ref q1, .ref q2]) nq3
    generalize (upd Hc q3 (.tup [.ref q1, .ref q2])) = Hd at x4 ⊢
    have x14 : ∀ c o, c ≠ G → H9 c = some o → Hd c = some o := fun c o n e => x4 _ _ (x3 _ _ (x2 _ _ (x1 c o n e)))
    have eMd := x14 _ _ nGM.symm eM9
    refine ⟨MO, _, .ref q3, rfl, rfl, eMd, by rw [List.length_map]; exact small1000 (by have := hP4.l14; omega), ?_⟩
    have x5 : ∀ c o, c ≠ G → c ≠ MO → H9 c = some o → (upd Hd MO (.lst (ys.map lkR ++ [.ref q3]))) c = some o := fun c o n n2 e => by rw [upd_ne n2]; exact x14 c o n e
    generalize (upd Hd MO (.lst (ys.map lkR ++ [.ref q3]))) = J0 at x5 ⊢
    have sJ : Same H4 J0 := fun b o e => x5 b o (ne_of_none e nG) (ne_of_none e nMO4) (s49 _ _ e)
    have hA0 : PieceAt CP J0 PC bt lt (nms.map V.str) (ys.map lkR) := by
      obtain ⟨⟨dx', g1⟩, g2, g3⟩ := hA9
      have up : ∀ {c o}, H9 c = some o → (∀ xs, o ≠ .lst xs) → J0 c = some o := fun {c o} e n => x5 c o (ne_of e eG9 (n _)) (ne_of e eM9 (n _)) e
      exact ⟨⟨dx', up g1 (fun xs z => nomatch z)⟩, up g2 (fun xs z => nomatch z), up g3 (fun xs z => nomatch z)⟩
    have hS0 := hS4.same sJ
    have hP0 := hP4.same sJ
    have D0 := D4.same sJ
    have A0 := hA.same sJ
    have T0 := tab_sm t4 sJ
    clear x1 x2 x3 x4 x14 x5 sJ hA9 hS4 hP4 D4 hA t4 eG9 eM9 eMd nq1 nq2 nq3 s49 nMO4 nG nGM
    obtain ⟨⟨dxP, obP⟩, hbP, hlP⟩ := hA0
    have n7 := hP0.n7
    have l14 := hP0.l14
    have wOk : ∀ z ∈ nms, sOk (.str z) := fun z hz => w_ok (hP0.isw hw z hz)
    refine ⟨_, rfl, PC, CP, dxP, _, _, rfl, obP, SP.cl, SP.nB, pfl_b _ _, _, rfl, ne_tups hbP hP0.b wOk ⟨_, rfl, ?_⟩⟩
    show if false = true then _ else _
    rw [if_neg Bool.false_ne_true]
    refine ⟨_, rfl, PC, CP, dxP, _, _, rfl, obP, SP.cl, SP.nL, pfl_l _ _, _, rfl, ne_links hlP hP0.l hP0.lk ⟨_, rfl, ?_⟩⟩
    show if false = true then _ else _
    rw [if_neg Bool.false_ne_true]
    refine ⟨_, rfl, PC, dxP, _, rfl, obP, PC, bt, lt, _, _, rfl, ⟨⟨_, obP⟩, hbP, hlP⟩, ⟨_, rfl, ⟨by omega, by rw [List.length_map]; omega⟩, ?_⟩⟩
    refine ⟨_, rfl, BT, _, rfl, .inr hP0.b, rfl, _, rfl, ?_⟩
    rw [show (!decide (V.int (((nms.map V.str).length : Nat) : Int) = V.int (((nms.map V.str).length : Nat) : Int))) = false by simp]
    show if false = true then _ else _
    rw [if_neg Bool.false_ne_true]
    refine ⟨_, rfl, _, rfl, _, rfl, fun P2 dx3 nP2 ndx3 nds3 => ?_⟩
    have w9 : Same J0 (upd (upd J0 dx3 (.own P2)) P2 (.ins CP dx3 [])) := fun b o e => by rw [upd_ne (ne_of_none e nP2), upd_ne (ne_of_none e ndx3)]; exact e
    have hP1 := hP0.same w9
    refine piece_ok upd_same (hP1.cp hw (.inr hP1.b)) (.inr hP1.b) (by rw [List.length_map]; exact hP1.n1) (by rw [List.length_map]; omega) (by rw [List.length_map]; exact hP1.ln (.inr hP1.l)) (.inr hP1.l) (fun bt2 lt2 J1 hA1 k9 => ⟨rfl, ?_⟩)
    have sJ : Same J0 J1 := fun b o e => k9 b o (ne_of_none e nP2) (w9 _ _ e)
    have hA0 : PieceAt CP J1 PC bt lt (nms.map V.str) (ys.map lkR) := ⟨⟨dxP, sJ _ _ obP⟩, sJ _ _ hbP, sJ _ _ hlP⟩
    have hS1 := hS0.same sJ
    have hP1 := hP0.same sJ
    have D1 := D0.same sJ
    have A1 := A0.same sJ
    have T1 := tab_sm T0 sJ
    clear w9 k9 hS0 hP0 D0 A0 T0 nP2 ndx3 nds3
    obtain ⟨⟨dx2', ob2⟩, hb2, hl2⟩ := hA1
    obtain ⟨d1, z1, z2, z3⟩ := dp_strs (K := K) (H := J1) nms wOk
    have zl : PyData.eqv (.tuple (ys.map K1.lkE)) (.tuple (ys.map K1.lkE)) = true := SeqAt.eqv_refl (.tuple (ys.map K1.lkE)) (by simp only [PyData.canLay0, lk_lays])
    refine ⟨PC, P2, dxP, dx2', _, _, rfl, rfl, sJ _ _ obP, ob2, PC, bt, lt, P2, bt2, lt2, _, _, _, _, d1, .tuple (ys.map K1.lkE), d1, .tuple (ys.map K1.lkE), rfl, hA0, ⟨⟨_, ob2⟩, hb2, hl2⟩,
      z1 _ (sJ _ _ hbP), .tup (SqT.of (sJ _ _ hlP)) (lk_dp hP1.lk), z1 _ hb2, .tup (SqT.of hl2) (lk_dp hP1.lk), z2, lk_sh ys, z2, lk_sh ys, ⟨_, rfl, _, rfl, ?_⟩⟩
    rw [z3, zl]
    show if false = true then _ else _
    rw [if_neg Bool.false_ne_true]
    clear z1 z2 z3 zl ob2 hb2 hl2 sJ obP hbP hlP
    -- free
    refine ⟨_, rfl, _, rfl, _, rfl, T, A', B, BT, LT, ps, bs, nms, ess, ys.map lkR, ys.map (·.2), rfl, hS1.t, hS1.b, .inr hP1.b, hP1.es, by omega, .inr hP1.l, by simp, by simp; omega, hP1.lk.at, fun R J2 nR gR sR => ?_⟩
    have hfree := free_tr ess (ys.map (·.2)) nms.length hP1.es.1
    have hfl : ((trTo ess nms.length).filter (fun q => !decide (trP q ∈ plsOf (ys.map (·.2))))).length ≤ 28 := by
      refine Nat.le_trans (List.length_filter_le _ _) ?_
      have := trTo_len hP1.es.four nms.length
      omega
    generalize ((trTo ess nms.length).filter fun q => !decide (trP q ∈ plsOf (ys.map (·.2)))) = fq at gR hfree hfl
    obtain ⟨ts, t1, t2, t3⟩ := gR
    refine ⟨R, rfl, ⟨_, SqL.of t1⟩, fun FR nFR => ?_⟩
    refine lc_list (K := K) (a := R) (xs := ts.map V.ref) (fun i G => PlsAt G FR ((fq.take i).map trP) ∧ ∀ c o, c ≠ FR → J2 c = some o → G c = some o) ⟨RfAt.nil, fun c o n e => by rw [upd_ne n]; exact e⟩ (fun i G _ p => SqL.of (p.2 _ _ (ne_of_none t1 nFR) t1)) ?_ ?_
    · rintro i z G hz ⟨⟨rs, r1, r2, r3⟩, k3⟩
      rw [List.getElem?_map] at hz
      cases ht : ts[i]? with
      | none => rw [ht] at hz; cases hz
      | some t' =>
      rw [ht] at hz
      cases hz
      have hi : i < ts.length := (List.getElem?_eq_some_iff.mp ht).1
      obtain ⟨q0, hq0⟩ : ∃ q0, fq[i]? = some q0 := ⟨_, List.getElem?_eq_getElem (by omega)⟩
      have hTG := k3 _ _ (ne_of_none (t3 i t' q0 ht hq0) nFR) (t3 i t' q0 ht hq0)
      have tk : (fq.take (i + 1)).map trP = (fq.take i).map trP ++ [trP q0] := by rw [List.take_add_one, hq0, List.map_append]; rfl
      refine ⟨rfl, _, rfl, t', _, 0, .int (q0.1 : Int), rfl, rfl, SqT.of hTG, at_of (j := 0) rfl rfl, _, rfl, t', _, 1, .int (q0.2.1 : Int), rfl, rfl, SqT.of hTG, at_of (j := 1) rfl rfl, Nat.le_of_lt (small1000 (n := 2) (by decide)), fun M2 nM2 => ?_⟩
      have sM : Same G (upd G M2 (.tup [.int (q0.1 : Int), .int (q0.2.1 : Int)])) := same_upd nM2
      have eM : (upd G M2 (.tup [.int (q0.1 : Int), .int (q0.2.1 : Int)])) M2 = some (.tup ((pK (trP q0)).map L2.kV)) := upd_same
      generalize (upd G M2 (.tup [.int (q0.1 : Int), .int (q0.2.1 : Int)])) = G1 at sM eM ⊢
      refine ⟨_, sM _ _ r1, ?_, ?_, fun c o n e => by rw [upd_ne n]; exact sM _ _ (k3 c o n e)⟩
      · rw [List.length_map, r2, List.length_map]
        have h2 := List.length_take_le i fq
        exact small1000 (by omega)
      · rw [tk]
        exact RfAt.push (f := fun q => (pK q).map L2.kV) r1 r2 r3 (fun c o n e => sM _ _ e) eM (by intro z; rw [z, r1] at nM2; cases nM2)
    rintro J3 ⟨gF, k3⟩
    rw [List.length_map, t2, List.take_length, ← hfree] at gF
    have s3 : Same J1 J3 := sR.trans fun c o e => k3 c o (ne_of_none e nFR) e
    have hS3 := hS1.same s3
    have hP3 := hP1.same s3
    have D3 := D1.same s3
    have A3 := A1.same s3
    have T3 := tab_sm T1 s3
    have hA3 := hA0.same s3
    clear s3 hS1 hP1 D1 A1 T1 hA0 k3 nFR t1 t2 t3 hfree hfl sR nR
    -- amounts
    refine fun AM nAM => ?_
    have sA : Same J3 (upd J3 AM (.dK [])) := same_upd nAM
    have eA : (upd J3 AM (.dK [])) AM = some (.dK []) := upd_same
    generalize (upd J3 AM (.dK [])) = J4 at sA eA ⊢
    have hP4 := hP3.same sA
    have s34 : Same J3 J4 := sA
    have nTAM : ∀ {c o}, J3 c = some o → c ≠ AM := fun e => ne_of_none e nAM
    refine ⟨_, rfl, BT, nms, rfl, .inr hP4.b, fun zs sp perm srt nsp => ⟨sp, rfl, ⟨_, SqL.of upd_same⟩, ?_⟩⟩
    have sB : Same J4 (upd J4 sp (.lst (zs.map V.str))) := same_upd nsp
    have eB : (upd J4 sp (.lst (zs.map V.str))) sp = some (.lst (zs.map V.str)) := upd_same
    generalize (upd J4 sp (.lst (zs.map V.str))) = J5 at sB eB ⊢
    have nsA : sp ≠ AM := (ne_of_none eA nsp).symm
    have zl : zs.length = nms.length := perm.length_eq
    have s35 : Same J3 J5 := s34.trans sB
    have eA5 := sB _ _ eA
    clear sA sB eA nsp hP4 s34
    refine for_list (K := K) (a := sp) (xs := zs.map V.str) (fun i σ H' => (∃ v10, σ = [some (.ref a), some (.ref d), some (.ref T), some (.ref BT), some (.ref LT), some (.ref G), some (.ref MO), none, some (.ref FR), some (.ref AM), v10, none, none, none, none, none, none, none, some (.ref PC), some (.ref SH)]) ∧ (∃ ks, H' AM = some (.dK (numK ks fun m => ((nms.count m : Nat) : Int))) ∧ Asc ks (zs.take i)) ∧ ∀ c o, c ≠ AM → J5 c = some o → H' c = some o)
      ⟨⟨_, rfl⟩, ⟨[], eA5, ⟨List.nodup_nil, fun m => by simp, List.Pairwise.nil⟩⟩, fun c o _ e => e⟩ (fun i σ H' _ q => SqL.of (q.2.2 _ _ nsA eB)) ?_ ?_
    · rintro i x σ H' hx ⟨⟨v10, rfl⟩, ⟨ks, g1, g2⟩, k⟩
      rw [List.getElem?_map] at hx
      cases hm : zs[i]? with
      | none => rw [hm] at hx; cases hx
      | some m =>
      rw [hm] at hx
      cases hx
      have hi : i < zs.length := (List.getElem?_eq_some_iff.mp hm).1
      have kl : ks.length ≤ zs.length := nd_len g2.nd fun x hx => List.mem_of_mem_take ((g2.mem x).mp hx)
      have eBT := k _ _ (nTAM hP3.b) (s35 _ _ hP3.b)
      refine ⟨_, rfl, BT, rfl, ⟨_, SqT.of eBT⟩, fun L nL => ?_⟩
      refine lc_tup (K := K) (a := BT) (xs := nms.map V.str) (fun i G => G L = some (.lst (((nms.take i).filter fun z => decide (z = m)).map V.str)) ∧ ∀ c o, c ≠ L → H' c = some o → G c = some o) ⟨upd_same, fun c o n e => by rw [upd_ne n]; exact e⟩ (fun i G _ p => SqT.of (p.2 _ _ (ne_of_none eBT nL) eBT)) ?_ ?_
      · rintro j z G hz ⟨r1, k3⟩
        rw [List.getElem?_map] at hz
        cases hn : nms[j]? with
        | none => rw [hn] at hz; cases hz
        | some n =>
        rw [hn] at hz
        cases hz
        have hj : j < nms.length := (List.getElem?_eq_some_iff.mp hn).1
        refine ⟨rfl, _, rfl, _, rfl, rfl, _, rfl, ?_⟩
        have tk : nms.take (j + 1) = nms.take j ++ [n] := by rw [List.take_add_one, hn]; rfl
        by_cases e : n = m
        · rw [show decide (V.str n = V.str m) = true by rw [e]; simp]
          show if true = true then _ else _
          rw [if_pos rfl]
          refine ⟨_, rfl, _, r1, ?_, ?_, fun c o n e => by rw [upd_ne n]; exact k3 c o n e⟩
          · rw [List.length_map]
            have h1 := List.length_filter_le (fun z => decide (z = m)) (nms.take j)
            have h2 := List.length_take_le j nms
            exact small1000 (by omega)
          · rw [upd_same, tk, List.filter_append, List.map_append]
            simp [e]
        · rw [decide_eq_false (show ¬ V.str n = V.str m from fun z => e (V.str.inj z))]
          show if false = true then _ else _
          rw [if_neg Bool.false_ne_true]
          refine ⟨?_, k3⟩
          rw [tk, List.filter_append]
          simpa [e] using r1
      rintro G' ⟨r1, k3⟩
      rw [List.length_map, List.take_length] at r1
      have eAM := k3 _ _ (ne_of_none g1 nL) g1
      refine ⟨L, _, rfl, .inl (SqL.of r1), ?_⟩
      have hc : ((((nms.filter fun z => decide (z = m)).map V.str).length : Nat) : Int) = ((nms.count m : Nat) : Int) := by
        rw [List.length_map, List.count_eq_countP, List.countP_eq_length_filter]
        rfl
      rw [hc]
      refine ⟨_, rfl, _, rfl, AM, _, rfl, DPut.k (k := Sum.inr m) eAM (by rw [numK_len]; exact small1000 (by omega)), ⟨_, rfl⟩, ⟨_, ?_, g2.step srt hm⟩, fun c o n e => by rw [upd_ne n]; exact k3 _ _ (ne_of_none (k c o n e) nL) (k c o n e)⟩
      rw [upd_same]
      by_cases hmk : m ∈ ks
      · rw [if_pos hmk, numK_put hmk]
        congr 2
        unfold numK
        refine List.map_congr_left fun z _ => ?_
        show ((Sum.inr z : Key), V.int (if z = m then _ else _)) = _
        by_cases e : z = m
        · rw [if_pos e, e]
        · rw [if_neg e]
      · rw [if_neg hmk, numK_new hmk _ rfl]
    rintro σ J6 ⟨⟨v10, rfl⟩, ⟨ks0, eAM, asc0⟩, k⟩
    rw [List.length_map, List.take_length] at asc0
    have s36 : Same J3 J6 := fun c o e => k _ _ (nTAM e) (s35 _ _ e)
    have hS6 := hS3.same s36
    have hP6 := hP3.same s36
    have D6 := D3.same s36
    have A6 := A3.same s36
    have T6 := tab_sm T3 s36
    have hA6 := hA3.same s36
    have gF6 := gF.kept s36
    clear k s35 s36 eB eA5 hS3 hP3 D3 A3 T3 hA3 nAM gF nsA nTAM srt zl
    have ndP : (ps.map (·.1)).Nodup := hS6.P.nd
    have ndB : ((bl bs).map (·.1)).Nodup := by rw [bl_keys]; exact hS6.O.nd
    refine ⟨_, rfl, _, rfl, .ref SH, .ref PC, rfl, .inr ⟨SH, pp, bp, np, ps, bl bs, rfl, A6, ndP, ndB, .inr ⟨PC, bt, lt, nms, _, rfl, hP6.wf hw hA6, hP6.has, hP6.fit hS6.P, fun FD ks J7 nFD eFD asc s67 => ?_⟩⟩⟩
    have hS7 := hS6.same s67
    have hP7 := hP6.same s67
    have D7 := D6.same s67
    have A7 := A6.same s67
    have T7 := tab_sm T6 s67
    have hA7 := hA6.same s67
    have gF7 := gF6.kept s67
    have eAM7 := s67 _ _ eAM
    clear s67 hS6 hP6 D6 A6 T6 hA6 gF6 eAM nFD
    refine ⟨_, rfl, _, rfl, .ref SH, .ref PC, rfl, .inr ⟨SH, pp, bp, np, ps, bl bs, rfl, A7, ndP, ndB, .inr ⟨PC, bt, lt, nms, _, rfl, hP7.wf hw hA7, hP7.has, hP7.fit hS7.P, ys.map (·.2), ess.map List.length, by simp, hP7.lk.at, hP7.lens, fun D2 J8 g2 s78 => ?_⟩⟩⟩
    refine ⟨_, rfl, ne_pls g2 (gF7.kept s78) ⟨_, rfl, ?_⟩⟩
    show if false = true then _ else _
    rw [if_neg Bool.false_ne_true]
    have hS8 := hS7.same s78
    have hP8 := hP7.same s78
    have A8 := A7.same s78
    have hA8 := hA7.same s78
    refine ⟨_, rfl, _, rfl, .ref SH, .ref PC, rfl, .inr ⟨SH, pp, bp, np, ps, bl bs, rfl, A8, ndP, ndB, .inr ⟨PC, bt, lt, nms, _, rfl, hP8.wf hw hA8, hP8.has, hP8.fit hS8.P, fun J9 s89 => ?_⟩⟩⟩
    refine ⟨_, rfl, LT, _, rfl, .inr (s89 _ _ hP8.l), _, rfl, BT, _, rfl, .inr (s89 _ _ hP8.b), _, _, rfl, rfl, _, _, rfl, rfl, rfl, _, rfl, ?_⟩
    rw [show (!decide (V.int (((ys.map lkR).length : Nat) - (nms.length : Nat) + 1 : Int) = V.int (((ys.map lkR).length : Nat) - ((nms.map V.str).length : Nat) + 1 : Int))) = false by rw [List.length_map (as := nms)]; simp]
    show if false = true then _ else _
    rw [if_neg Bool.false_ne_true]
    have s79 := s78.trans s89
    have hS9 := hS7.same s79
    have hP9 := hP7.same s79
    have D9 := D7.same s79
    have A9 := A7.same s79
    have T9 := tab_sm T7 s79
    have hA9 := hA7.same s79
    have eFD9 := s79 _ _ eFD
    have eAM9 := s79 _ _ eAM7
    clear s79 s78 s89 hS7 hP7 D7 A7 T7 hA7 gF7 eFD eAM7 hS8 hP8 A8 hA8 g2
    obtain ⟨kl, km⟩ := asc.same asc0 fun m => perm.mem_iff.symm
    refine ⟨_, rfl, _, rfl, FD, AM, _, _, rfl, rfl, eFD9, eAM9, by rw [numK_len, numK_len]; exact kl, fun p hp => ?_, _, rfl, ?_⟩
    · unfold numK at hp
      obtain ⟨m, hm, rfl⟩ := List.mem_map.mp hp
      exact ⟨numK_some (km m hm), rfl⟩
    show if false = true then _ else _
    rw [if_neg Bool.false_ne_true]
    -- list(found) != sorted(found)
    have ksl : ks.length ≤ 7 := Nat.le_trans (nd_len asc.nd fun x hx => (asc.mem x).mp hx) n7
    refine ⟨_, rfl, FD, _, rfl, .inl eFD9, fun L1 nL1 => ?_⟩
    have sa : Same J9 (upd J9 L1 (.lst ((numK ks fun m => ((nms.count m : Nat) : Int)).map fun kv => L2.kV kv.1))) := same_upd nL1
    have ea : (upd J9 L1 (.lst ((numK ks fun m => ((nms.count m : Nat) : Int)).map fun kv => L2.kV kv.1))) L1 = some (.lst (ks.map V.str)) := by rw [upd_same]; unfold numK; rw [List.map_map]; rfl
    generalize (upd J9 L1 (.lst ((numK ks fun m => ((nms.count m : Nat) : Int)).map fun kv => L2.kV kv.1))) = Ka at sa ea ⊢
    refine ⟨_, rfl, FD, _, ks, rfl, .inl (sa _ _ eFD9), by unfold numK; rw [List.map_map]; rfl, by omega, fun ws L2' pw sw nw => ?_⟩
    have ew : ws = ks := sorted_one sw asc.sorted pw
    subst ew
    have sb : Same Ka (upd Ka L2' (.lst (ws.map V.str))) := same_upd nw
    have eb : (upd Ka L2' (.lst (ws.map V.str))) L2' = some (.lst (ws.map V.str)) := upd_same
    have ea' := sb _ _ ea
    generalize (upd Ka L2' (.lst (ws.map V.str))) = Kb at sb eb ea' ⊢
    refine ne_lists ea' eb (fun z hz => wOk z ((asc.mem z).mp hz)) ⟨_, rfl, ?_⟩
    show if false = true then _ else _
    rw [if_neg Bool.false_ne_true]
    have s9b := sa.trans sb
    have hSb := hS9.same s9b
    have hPb := hP9.same s9b
    have Ab := A9.same s9b
    have hAb := hA9.same s9b
    refine ⟨_, rfl, _, rfl, .ref SH, .ref PC, rfl, .inr ⟨SH, pp, bp, np, ps, bl bs, rfl, Ab, ndP, ndB, true, .fit (hPb.wf hw hAb) hPb.has (hPb.fit hSb.P), fun Kc sc' => ⟨_, rfl, ?_⟩⟩⟩
    show if (!true) = true then _ else _
    rw [if_neg (by decide)]
    have s9c := s9b.trans sc'
    have hSc := hS9.same s9c
    have hPc := hP9.same s9c
    have Dc := D9.same s9c
    have Ac := A9.same s9c
    have Tc := tab_sm T9 s9c
    have hAc := hA9.same s9c
    clear s9c s9b sc' sa sb ea ea' eb hSb hPb Ab hAb hS9 hP9 D9 A9 T9 hA9 eFD9 eAM9 nL1 nw pw sw km kl ksl asc asc0 perm
    -- the spoilt ones
    refine ⟨_, rfl, _, rfl, M', BT, LT, ps, bs, nms, ess, ys, rfl, hPc, hw, fun R2 xs K0 nR2 eR lenR bad sD sK => ?_⟩
    have y1S := (hSc.same sK).noT
    have y1P := (hPc.same sK).noT
    have y1A := (Ac.same sK).noT
    have y1D := (Dc.same sK).noT
    have y1O := (hAc.same sK).noT
    have y1t := tab_sm Tc sK
    have y1R : noT K0 R2 = some (.lst xs) := noT_eq eR (by intro ps z; cases z)
    have y1B : ∀ x ∈ xs, BPair (noT K0) x := fun x hx => (BPair.mo _ _ _ del_sub (bad x hx)).noT
    clear hSc hPc Ac Dc hAc Tc bad sD sK nR2
    refine ⟨R2, rfl, ⟨_, SqL.of eR⟩, ?_⟩
    refine for_list (K := K) (a := R2) (xs := xs) (fun i σ H' => (∃ v17, σ = [some (.ref a), some (.ref d), some (.ref T), some (.ref BT), some (.ref LT), some (.ref G), some (.ref MO), none, some (.ref FR), some (.ref AM), v10, none, some (.ref FD), none, none, none, none, v17, some (.ref PC), some (.ref SH)]) ∧ Same (noT K0) H' ∧ LamX.TabS H' Pt qn) ⟨⟨_, rfl⟩, noT_sub, y1t⟩ (fun i σ H' _ q => SqL.of (q.2.1 _ _ y1R)) ?_ ?_
    · rintro i x σ H' hx ⟨⟨v17, rfl⟩, s1, t1⟩
      obtain ⟨p, x, y, rfl, ep, bp'⟩ := y1B x (List.mem_of_getElem? hx)
      refine ⟨fun q hq => by rw [List.mem_singleton.mp hq]; exact t1, fun Hx eN tN => ?_⟩
      have s2 := noT_ext s1 eN
      refine ⟨_, rfl, p, _, 0, _, rfl, rfl, SqL.of (s2 _ _ ep), at_of (j := 0) rfl rfl, _, rfl, p, _, 1, _, rfl, rfl, SqL.of (s2 _ _ ep), at_of (j := 1) rfl rfl, fun X dx nX ndx nd => ?_⟩
      have s3 : Same Hx (upd (upd Hx dx (.own X)) X (.ins CP dx [])) := fun b o e => by rw [upd_ne (ne_of_none e nX), upd_ne (ne_of_none e ndx)]; exact e
      refine bad_pinit upd_same ((bp'.same s2).same s3) (fun H'' s4 => ?_)
      refine ⟨rfl, .inr ⟨rfl, rfl, false, by simp, ?_⟩⟩
      show if false = true then _ else _
      rw [if_neg Bool.false_ne_true]
      exact ⟨⟨_, rfl⟩, (s2.trans s3).trans s4, tab_sm (tN (Pt, qn) (List.mem_singleton.mpr rfl)) (s3.trans s4)⟩
    rintro σ K1' ⟨⟨v17, rfl⟩, s1, t1⟩
    have z1S := y1S.same s1
    have z1P := y1P.same s1
    have z1A := y1A.same s1
    have z1D := y1D.same s1
    have z1O := y1O.same s1
    have z1t := t1
    clear y1S y1P y1A y1D y1O y1t y1R y1B s1 t1 eR lenR
    -- other
    refine ⟨_, rfl, BT, _, rfl, .inr (SqT.of z1P.b), rfl, by rw [List.all_map, List.all_eq_true]; exact fun _ _ => rfl, _, rfl, ?_⟩
    rw [inV_str]
    by_cases hq : ("q" : Str) ∈ nms
    case' pos =>
      rw [decide_eq_true hq]
      show if (!true) = true then _ else _
      rw [if_neg (by decide)]
      refine fun RD nRD => ⟨upd_same, [(Sum.inr "r", .str "r")], rfl, by decide, ?_⟩
      rw [upd_upd]
      have o1 : Same K1' (upd K1' RD (.dK (mergeK [] [(Sum.inr "r", .str "r")]))) := same_upd nRD
      have o2 : (upd K1' RD (.dK (mergeK [] [(Sum.inr "r", .str "r")]))) RD = some (.dK (pk [("r", "r")])) := upd_same
      generalize (upd K1' RD (.dK (mergeK [] [(Sum.inr "r", .str "r")]))) = X1 at o1 o2 ⊢
      refine fun QD nQD => ⟨Nat.le_of_lt (small1000 (n := 1) (by decide)), fun u1 nu1 => ⟨Nat.le_of_lt (small1000 (n := 1) (by decide)), fun u2 nu2 => ?_⟩⟩
      have nR1 : RD ≠ QD := ne_of_none o2 nQD
      have nQu1 : QD ≠ u1 := ne_of_none (show (upd X1 QD (.dK [])) QD = some (.dK []) from upd_same) nu1
      have o3 : Same X1 (upd X1 QD (.dK [])) := same_upd nQD
      have o4 : (upd X1 QD (.dK [])) QD = some (.dK []) := upd_same
      generalize (upd X1 QD (.dK [])) = X2 at o3 o4 nu1 nu2 ⊢
      have o5 : Same X2 (upd X2 u1 (.tup [.str "r"])) := same_upd nu1
      have o6 : (upd X2 u1 (.tup [.str "r"])) u1 = some (.tup [.str "r"]) := upd_same
      generalize (upd X2 u1 (.tup [.str "r"])) = X3 at o5 o6 nu2 ⊢
      have nQu2 : QD ≠ u2 := ne_of_none (o5 _ _ o4) nu2
      have o7 : Same X3 (upd X3 u2 (.tup [.str "r"])) := same_upd nu2
      have o8 : (upd X3 u2 (.tup [.str "r"])) u2 = some (.tup [.str "r"]) := upd_same
      generalize (upd X3 u2 (.tup [.str "r"])) = X4 at o7 o8 ⊢
      have hQ4 : X4 QD = some (.dK []) := o7 _ _ (o5 _ _ o4)
      refine ⟨hQ4, [(Sum.inr "q", .ref u1), (Sum.inr "s", .ref u2)], rfl, by show 2 ≤ 15; decide, ?_⟩
      have m1 : mergeK [] [(Sum.inr "q", V.ref u1), (Sum.inr "s", V.ref u2)] = bk [("q", u1), ("s", u2)] := by
        have ne : ¬ ("q" : Str) = "s" := by decide +kernel
        simp [mergeK, putK, bk, ne]
      rw [m1]
      have hX : ∀ c o, c ≠ QD → X4 c = some o → (upd X4 QD (.dK (bk [("q", u1), ("s", u2)]))) c = some o := fun c o n e => by rw [upd_ne n]; exact e
      have hXq : (upd X4 QD (.dK (bk [("q", u1), ("s", u2)]))) QD = some (.dK (bk [("q", u1), ("s", u2)])) := upd_same
      generalize (upd X4 QD (.dK (bk [("q", u1), ("s", u2)]))) = X5 at hX hXq ⊢
      have sX : Same K1' X5 := fun c o e => hX c o (ne_of_none (o1 _ _ e) nQD) (o7 _ _ (o5 _ _ (o3 _ _ (o1 _ _ e))))
      have hXr : X5 RD = some (.dK (pk [("r", "r")])) := hX _ _ nR1 (o7 _ _ (o5 _ _ (o3 _ _ o2)))
      have hX1 : X5 u1 = some (.tup [.str "r"]) := hX _ _ nQu1.symm (o7 _ _ o6)
      have hX2 : X5 u2 = some (.tup [.str "r"]) := hX _ _ nQu2.symm o8
      clear o1 o2 o3 o4 o5 o6 o7 o8 hX hQ4 nQu1 nu1 nu2 m1
      refine fun OT dxo nOT ndxo ndo => ?_
      have w3 : Same X5 (upd (upd X5 dxo (.own OT)) OT (.ins C dxo [])) := fun b o e => by rw [upd_ne (ne_of_none e nOT), upd_ne (ne_of_none e ndxo)]; exact e
      refine init_ok (ps := [("r", "r")]) (bs := [("q", u1), ("s", u2)]) upd_same (w3 _ _ hXr) (w3 _ _ hXq) rr_part (by simp) (by decide) (two_blk (w3 _ _ hX1) (w3 _ _ hX2)) (by show 2 ≤ 8; decide) nR1.symm (fun po bo no X6 hO k6 => ⟨rfl, ?_⟩)
      have v3 : Same X5 X6 := fun b o e => k6 b o (ne_of_none e nOT) (w3 _ _ e)
      have sO : Same K1' X6 := sX.trans v3
      have oth : Oth C X6 OT nms (decide (("q" : Str) ∈ nms)) := by
        refine ⟨po, bo, no, [("r", "r")], [("q", u1), ("s", u2)], hO, by simp, by
          have ne : ¬ ("q" : Str) = "s" := by decide +kernel
          simp [bl, ne], ?_⟩
        cases ha : nms.all (fun m => (K1.look (bl [("q", u1), ("s", u2)]) m).isSome) with
        | false => exact .inl rfl
        | true =>
          refine .inr ⟨decide_eq_true hq, rfl, "r", rfl, fun m hm => ?_⟩
          rcases look_qs (List.all_eq_true.mp ha m hm) with e | e
          · exact ⟨u1, e, v3 _ _ hX1⟩
          · exact ⟨u2, e, v3 _ _ hX2⟩
      clear hO v3 w3 k6 sX hXr hXq hX1 hX2 nR1 nOT ndxo ndo
    case' neg =>
      rw [decide_eq_false hq]
      show if (!false) = true then _ else _
      rw [if_pos (by decide)]
      refine ⟨_, rfl, T, _, 0, _, rfl, rfl, SqL.of z1S.t, at_of (j := 0) rfl rfl, fun QD nQD => ?_⟩
      have o3 : Same K1' (upd K1' QD (.dK [])) := same_upd nQD
      have o4 : (upd K1' QD (.dK [])) QD = some (.dK []) := upd_same
      generalize (upd K1' QD (.dK [])) = X2 at o3 o4 ⊢
      have z2S := z1S.same o3
      refine ⟨_, rfl, T, _, 0, _, rfl, rfl, SqL.of z2S.t, at_of (j := 0) rfl rfl, A', pk ps, ps.map (·.1), rfl, .inl z2S.a, by unfold pk; rw [List.map_map, List.map_map]; rfl, by rw [List.length_map]; have := z2S.p8; omega, fun zs2 sp2 pf2 sr2 np2 => ?_⟩
      obtain ⟨k0, hk0, ek0⟩ : ∃ k0, k0 ∈ ps.map (·.1) ∧ zs2[0]? = some k0 := by
        cases zs2 with
        | nil =>
          have := pf2.length_eq
          rw [List.length_map] at this
          exact absurd (List.eq_nil_of_length_eq_zero this.symm) z2S.p0
        | cons y r => exact ⟨y, pf2.mem_iff.mp List.mem_cons_self, rfl⟩
      have o5 : Same X2 (upd X2 sp2 (.lst (zs2.map V.str))) := same_upd np2
      have o6 : (upd X2 sp2 (.lst (zs2.map V.str))) sp2 = some (.lst (zs2.map V.str)) := upd_same
      generalize (upd X2 sp2 (.lst (zs2.map V.str))) = X3 at o5 o6 ⊢
      refine ⟨sp2, _, 0, .str k0, rfl, rfl, SqL.of o6, at_of (j := 0) rfl (by rw [List.getElem?_map, ek0]; rfl), Nat.le_of_lt (small1000 (n := 1) (by decide)), fun u1 nu1 => ?_⟩
      have o7 : Same X3 (upd X3 u1 (.tup [.str k0])) := same_upd nu1
      have o8 : (upd X3 u1 (.tup [.str k0])) u1 = some (.tup [.str k0]) := upd_same
      have nuQ : u1 ≠ QD := (ne_of_none (o5 _ _ o4) nu1).symm
      generalize (upd X3 u1 (.tup [.str k0])) = X4 at o7 o8 ⊢
      have hQ4 : X4 QD = some (.dK []) := o7 _ _ (o5 _ _ o4)
      refine ⟨hQ4, [(Sum.inr "q", .ref u1)], rfl, by show 1 ≤ 15; decide, ?_⟩
      have m1 : mergeK [] [(Sum.inr "q", V.ref u1)] = bk [("q", u1)] := by simp [mergeK, putK, bk]
      rw [m1]
      have hX : ∀ c o, c ≠ QD → X4 c = some o → (upd X4 QD (.dK (bk [("q", u1)]))) c = some o := fun c o n e => by rw [upd_ne n]; exact e
      have hXq : (upd X4 QD (.dK (bk [("q", u1)]))) QD = some (.dK (bk [("q", u1)])) := upd_same
      generalize (upd X4 QD (.dK (bk [("q", u1)]))) = X5 at hX hXq ⊢
      have sX : Same K1' X5 := fun c o e => hX c o (ne_of_none e nQD) (o7 _ _ (o5 _ _ (o3 _ _ e)))
      have hX1 : X5 u1 = some (.tup [.str k0]) := hX _ _ nuQ o8
      have z5S := z1S.same sX
      have nAQ : QD ≠ A' := (ne_of_none z1S.a nQD).symm
      clear o3 o4 o5 o6 o7 o8 hX hQ4 nuQ nu1 m1 z2S np2 pf2 sr2 ek0
      refine fun OT dxo nOT ndxo ndo => ?_
      have w3 : Same X5 (upd (upd X5 dxo (.own OT)) OT (.ins C dxo [])) := fun b o e => by rw [upd_ne (ne_of_none e nOT), upd_ne (ne_of_none e ndxo)]; exact e
      refine init_ok (bs := [("q", u1)]) upd_same (w3 _ _ z5S.a) (w3 _ _ hXq) z5S.P z5S.p0 z5S.p8 (one_blk (w3 _ _ hX1) hk0) (by show 1 ≤ 8; decide) nAQ (fun po bo no X6 hO k6 => ⟨rfl, ?_⟩)
      have v3 : Same X5 X6 := fun b o e => k6 b o (ne_of_none e nOT) (w3 _ _ e)
      have sO : Same K1' X6 := sX.trans v3
      have oth : Oth C X6 OT nms (decide (("q" : Str) ∈ nms)) := ⟨po, bo, no, ps, [("q", u1)], hO, ndP, by simp [bl], .inl (out_q hq z1P.n1)⟩
      clear hO v3 w3 k6 sX hXq hX1 z5S nAQ nOT ndxo ndo hk0
    all_goals
      have v1S := z1S.same sO
      have v1P := z1P.same sO
      have v1A := z1A.same sO
      have v1D := z1D.same sO
      have v1O := z1O.same sO
      have v1t := tab_sm z1t sO
      clear sO z1S z1P z1A z1D z1O z1t
      -- wrong
      refine ⟨_, rfl, _, rfl, _, rfl, Nat.le_of_lt (small1000 (n := 2) (by decide)), fun U nU => ?_⟩
      have u1 : Same X6 (upd X6 U (.tup [.ref BT, .ref LT])) := same_upd nU
      have w1 : (upd X6 U (.tup [.ref BT, .ref LT])) U = some (.tup [.ref BT, .ref LT]) := upd_same
      generalize (upd X6 U (.tup [.ref BT, .ref LT])) = U1 at u1 w1 ⊢
      refine ⟨rfl, rfl, Nat.le_of_lt (small1000 (n := 1) (by decide)), fun Z nZ => ?_⟩
      have u2 : Same U1 (upd U1 Z (.lst [.str "zzzzzzzz"])) := same_upd nZ
      have w2 : (upd U1 Z (.lst [.str "zzzzzzzz"])) Z = some (.lst [.str "zzzzzzzz"]) := upd_same
      generalize (upd U1 Z (.lst [.str "zzzzzzzz"])) = U2 at u2 w2 ⊢
      refine ⟨Z, 1, _, rfl, rfl, w2, by decide, by decide, by show 1 ≤ sizeLine; exact Nat.le_of_lt (small1000 (n := 1) (by decide)), fun Z2 nZ2 => ?_⟩
      have u3 : Same U2 (upd U2 Z2 (.lst (List.replicate (Int.toNat 1) [V.str "zzzzzzzz"]).flatten)) := same_upd nZ2
      have w3 : (upd U2 Z2 (.lst (List.replicate (Int.toNat 1) [V.str "zzzzzzzz"]).flatten)) Z2 = some (.lst [.str "zzzzzzzz"]) := upd_same
      generalize (upd U2 Z2 (.lst (List.replicate (Int.toNat 1) [V.str "zzzzzzzz"]).flatten)) = U3 at u3 w3 ⊢
      refine ⟨Nat.zero_le _, fun EL nEL => ?_⟩
      have u4 : Same U3 (upd U3 EL (.lst [])) := same_upd nEL
      have w4 : (upd U3 EL (.lst [])) EL = some (.lst []) := upd_same
      generalize (upd U3 EL (.lst [])) = U4 at u4 w4 ⊢
      refine fun PZ dxz nPZ ndxz nds => ?_
      have u5 : Same U4 (upd (upd U4 dxz (.own PZ)) PZ (.ins CP dxz [])) := fun b o e => by rw [upd_ne (ne_of_none e nPZ), upd_ne (ne_of_none e ndxz)]; exact e
      have hz1 := u5 _ _ (u4 _ _ w3)
      have hz2 := u5 _ _ w4
      refine piece_ok (bs := [.str "zzzzzzzz"]) (xs := []) upd_same (cp_z hz1) (.inl hz1) (by decide) (by decide) (ln_z (.inl hz2)) (.inl hz2) (fun btz ltz U6 hZ k6 => ⟨rfl, Nat.le_of_lt (small1000 (n := 4) (by decide)), fun WL nWL => ?_⟩)
      have u6 : Same X6 U6 := fun b o e => k6 b o (ne_of_none (u4 _ _ (u3 _ _ (u2 _ _ (u1 _ _ e)))) nPZ) (u5 _ _ (u4 _ _ (u3 _ _ (u2 _ _ (u1 _ _ e)))))
      have wU := k6 U _ (ne_of_none (u4 _ _ (u3 _ _ (u2 _ _ w1))) nPZ) (u5 _ _ (u4 _ _ (u3 _ _ (u2 _ _ w1))))
      have u7 : Same U6 (upd U6 WL (.lst [.non, .ref U, .int 0, .ref PZ])) := same_upd nWL
      have w7 : (upd U6 WL (.lst [.non, .ref U, .int 0, .ref PZ])) WL = some (.lst [.non, .ref U, .int 0, .ref PZ]) := upd_same
      have D6 := v1D.same u6
      have nWd := D6.nd nWL
      generalize (upd U6 WL (.lst [.non, .ref U, .int 0, .ref PZ])) = U7 at u7 w7 ⊢
      have D7 := D6.same u7
      have u67 := u6.trans u7
      refine ⟨d, sc, WL, _, rfl, D7, SqL.of w7, nWd, by show 0 < 4; decide, fun j v U8 hv D8 k8 => ?_⟩
      have hZ8 : PieceAt CP U8 PZ btz ltz [.str "zzzzzzzz"] [] := (hZ.same u7).kp D7 k8
      have hU8 : U8 U = some (.tup [.ref BT, .ref LT]) := (k8.tup D7) _ _ (u7 _ _ wU)
      have q1S := (v1S.same u67).kp D7 nTd k8
      have q1P := (v1P.same u67).kp D7 nMd k8
      have q1A := (v1A.same u67).kp D7 k8
      have q1O := (v1O.same u67).kp D7 k8
      have q1T := tab_kp (tab_sm v1t u67) D7 k8
      have q1H := (oth.same u67).kp D7 k8
      have hvv : (∃ k, Is U8 v k) ∨ v = .ref PZ := by
        match j, hv with
        | 0, hv => cases hv; exact .inl ⟨_, .non⟩
        | 1, hv => cases hv; exact .inl ⟨_, .tup hU8⟩
        | 2, hv => cases hv; exact .inl ⟨_, .int 0⟩
        | 3, hv => cases hv; exact .inr rfl
        | j + 4, hv => simp at hv
      clear hv hU8 u1 u2 u3 u4 u5 u6 u7 u67 w1 w2 w3 w4 w7 wU hz1 hz2 k6 k8 D6 D7 hZ v1S v1P v1A v1D v1O v1t oth nU nZ nZ2 nEL nPZ ndxz nds nWL nWd
      -- if 'z' * 8 in told[1]
      refine ⟨rfl, rfl, _, rfl, T, _, 1, _, rfl, rfl, SqL.of q1S.t, at_of (j := 1) rfl rfl, B, _, rfl, DGet.k (k := Sum.inr "zzzzzzzz") q1S.b, _, rfl, ?_⟩
      cases hz8 : (valV (bk bs) (Sum.inr "zzzzzzzz")).isSome with
      | true =>
        show if true = true then _ else _
        rw [if_pos rfl]
        have npc : Npc CP U8 bs .non := .inl ⟨.non, .non⟩
        clear hvv hZ8 hz8
        refine ⟨_, rfl, Nat.le_of_lt (small1000 (n := 2) (by decide)), fun TB2 nTB => ?_⟩
        have s9 : Same U8 (upd U8 TB2 (.tup [.non, .str "piece"])) := same_upd nTB
        have e9 : (upd U8 TB2 (.tup [.non, .str "piece"])) TB2 = some (.tup [.non, .str "piece"]) := upd_same
        generalize (upd U8 TB2 (.tup [.non, .str "piece"])) = V0 at s9 e9 ⊢
        have y1S := (q1S.same s9).noT
        have y1P := (q1P.same s9).noT
        have y1A := (q1A.same s9).noT
        have y1O := (q1O.same s9).noT
        have y1H := (q1H.same s9).noT
        have y1t := tab_sm q1T s9
        have y1e := tupNoT _ _ e9
        have npcs : ∀ x ∈ [.non, V.str "piece"], Npc CP (noT V0) bs x := fun x hx => by
          rcases List.mem_cons.mp hx with rfl | hx
          · exact (npc.same s9).noT
          · rw [List.mem_singleton.mp hx]
            exact .inl ⟨_, .str _⟩
        clear q1S q1P q1A q1O q1H q1T npc s9
        refine ⟨TB2, rfl, ⟨_, SqT.of e9⟩, ?_⟩
        refine for_tup (K := K) (a := TB2) (xs := [.non, .str "piece"]) (fun i σ H' => (∃ v16, (i ≠ 0 → ∃ u, v16 = some u) ∧ σ = [some (.ref a), some (.ref d), some (.ref T), some (.ref BT), some (.ref LT), some (.ref G), some (.ref MO), none, some (.ref FR), some (.ref AM), v10, none, some (.ref FD), some (.ref OT), some .non, none, v16, v17, some (.ref PC), some (.ref SH)]) ∧ Same (noT V0) H' ∧ LamX.TabS H' Pt qn) ⟨⟨_, fun z => absurd rfl z, rfl⟩, noT_sub, y1t⟩ (fun i σ H' _ q => SqT.of (q.2.1 _ _ y1e)) ?_ ?_
        · rintro i x σ H' hx ⟨⟨v16, _, rfl⟩, s1, t1⟩
          have nx := npcs x (List.mem_of_getElem? hx)
          refine ⟨_, rfl, _, rfl, .ref SH, x, rfl, .inr ⟨SH, pp, bp, np, ps, bl bs, rfl, y1A.same s1, ndP, ndB, false, (nx.same s1).pc ps, fun H2 s2 => ⟨_, rfl, ?_⟩⟩⟩
          show if false = true then _ else _
          rw [if_neg Bool.false_ne_true]
          have t2 := tab_sm t1 s2
          have g2 := s1.trans s2
          refine ⟨fun q hq => by rw [List.mem_singleton.mp hq]; exact t2, fun X3 eN tN => ?_⟩
          have h3 := noT_ext g2 eN
          refine ⟨_, rfl, _, rfl, .ref SH, x, rfl, .inr ⟨SH, pp, bp, np, ps, bl bs, rfl, y1A.same h3, ndP, ndB, .inl ⟨(nx.same h3).pc ps, fun Y3 s3 => ⟨rfl, .inr ⟨rfl, rfl, false, by simp, ?_⟩⟩⟩⟩⟩
          show if false = true then _ else _
          rw [if_neg Bool.false_ne_true]
          have t3 := tab_sm (tN (Pt, qn) (List.mem_singleton.mpr rfl)) s3
          have g3 := h3.trans s3
          clear eN tN
          refine ⟨fun q hq => by rw [List.mem_singleton.mp hq]; exact t3, fun X4 eN tN => ?_⟩
          have h4 := noT_ext g3 eN
          refine ⟨_, rfl, _, rfl, .ref SH, x, rfl, .inr ⟨SH, pp, bp, np, ps, bl bs, rfl, y1A.same h4, ndP, ndB, .inl ⟨(nx.same h4).pc ps, fun Y4 s4 => ⟨rfl, .inr ⟨rfl, rfl, false, by simp, ?_⟩⟩⟩⟩⟩
          show if false = true then _ else _
          rw [if_neg Bool.false_ne_true]
          have t4 := tab_sm (tN (Pt, qn) (List.mem_singleton.mpr rfl)) s4
          have g4 := h4.trans s4
          clear eN tN
          refine ⟨fun q hq => by rw [List.mem_singleton.mp hq]; exact t4, fun X5 eN tN => ?_⟩
          have h5 := noT_ext g4 eN
          refine ⟨_, rfl, _, rfl, .ref SH, x, rfl, .inr ⟨SH, pp, bp, np, ps, bl bs, rfl, y1A.same h5, ndP, ndB, .inl ⟨(nx.same h5).pc ps, fun Y5 s5 => ⟨rfl, .inr ⟨rfl, rfl, false, by simp, ?_⟩⟩⟩⟩⟩
          show if false = true then _ else _
          rw [if_neg Bool.false_ne_true]
          have t5 := tab_sm (tN (Pt, qn) (List.mem_singleton.mpr rfl)) s5
          have g5 := h5.trans s5
          clear eN tN
          exact ⟨⟨_, fun _ => ⟨_, rfl⟩, rfl⟩, g5, t5⟩
        rintro σ H' ⟨⟨v16, hv16, rfl⟩, s1, t1⟩
        obtain ⟨u16, rfl⟩ := hv16 (by show 2 ≠ 0; decide)
        refine ⟨fun q hq => by rw [List.mem_singleton.mp hq]; exact t1, fun X1 eN tN => ?_⟩
        have h3 := noT_ext s1 eN
        refine ⟨_, rfl, .non, u16, rfl, .inl ⟨.non, .non, rfl, .inl ⟨rfl, rfl, false, by simp, ?_⟩⟩⟩
        show if false = true then _ else _
        rw [if_neg Bool.false_ne_true]
        have t3 := tN (Pt, qn) (List.mem_singleton.mpr rfl)
        refine ⟨fun q hq => by rw [List.mem_singleton.mp hq]; exact t3, fun X2 eN2 tN2 => ?_⟩
        have h4 := noT_ext h3 eN2
        refine fun ED nED => ⟨_, rfl, .ref ED, .ref PC, rfl, .inl ⟨.dct [], .dct upd_same, rfl, .inl ⟨rfl, rfl, false, by simp, ?_⟩⟩⟩
        show if false = true then _ else _
        rw [if_neg Bool.false_ne_true]
        have h5 : Same (noT V0) (upd X2 ED (.dK [])) := h4.trans (same_upd nED)
        generalize (upd X2 ED (.dK [])) = V1 at h5 ⊢
        have zS := y1S.same h5
        have zP := y1P.same h5
        have zA := y1A.same h5
        have zO := y1O.same h5
        have oH := y1H.same h5
        clear h5 h4 h3 s1 t1 t3 eN tN eN2 tN2 nED y1S y1P y1A y1O y1H y1t y1e npcs e9
        -- ends
        have n1 := zP.n1
        obtain ⟨m0, hm0⟩ : ∃ m0, nms[0]? = some m0 := ⟨_, List.getElem?_eq_getElem n1⟩
        obtain ⟨es0, hs0⟩ : ∃ es0, ess[0]? = some es0 := ⟨_, List.getElem?_eq_getElem (by rw [zP.es.1]; exact n1)⟩
        obtain ⟨t0, hl0, ht0, e1', e4', hek⟩ := zP.es.2 0 m0 es0 hm0 hs0
        refine ⟨_, rfl, T, _, 1, _, rfl, rfl, SqL.of zS.t, at_of (j := 1) rfl rfl, _, rfl, BT, _, 0, .str m0, rfl, rfl, SqT.of zP.b, at_of (j := 0) rfl (by rw [List.getElem?_map, hm0]; rfl), B, .ref t0, rfl, ?_, ?_⟩
        · have := DGet.k (k := Sum.inr m0) zS.b
          rw [bk_val, hl0] at this
          exact this
        -- len(blocks) == 1
        refine ⟨_, rfl, BT, _, rfl, .inr zP.b, rfl, _, rfl, ?_⟩
        by_cases c1 : nms.length = 1
        case neg =>
          rw [decide_eq_false (show ¬ V.int (((nms.map V.str).length : Nat) : Int) = V.int 1 from fun z => c1 (by have := V.int.inj z; rw [List.length_map] at this; omega))]
          show if false = true then _ else _
          rw [if_neg Bool.false_ne_true]
          show if false = true then _ else _
          rw [if_neg Bool.false_ne_true]
          obtain ⟨po2, bo2, no2, ps2, b2, r, hO2, n21, n22, hpc, hr2⟩ := (oH.same (Same.refl V1)).pc (zP.same (Same.refl V1)) hw (zO.same (Same.refl V1))
          refine ⟨_, rfl, _, rfl, .ref OT, .ref PC, rfl, .inr ⟨OT, po2, bo2, no2, ps2, b2, rfl, hO2, n21, n22, r, hpc, fun H9 s9 => ⟨_, rfl, _, rfl, ?_⟩⟩⟩
          cases r with
          | false =>
            show if true = true then _ else _
            rw [if_pos rfl]
            exact q _
          | true =>
            show if (!true) = true then _ else _
            rw [if_neg (by decide)]
            refine ⟨_, rfl, BT, _, rfl, .inr (SqT.of (s9 _ _ ((Same.refl V1) _ _ zP.b))), rfl, by rw [List.all_map, List.all_eq_true]; exact fun _ _ => rfl, ?_⟩
            rw [inV_str, hr2 rfl]
            exact q _
        rw [decide_eq_true (show V.int (((nms.map V.str).length : Nat) : Int) = V.int 1 by rw [List.length_map, c1]; rfl)]
        show if true = true then _ else _
        rw [if_pos rfl]
        refine ⟨_, rfl, Nat.zero_le _, fun E2 nE2 => ?_⟩
        have k1 : Same V1 (upd V1 E2 (.tup [])) := same_upd nE2
        have k2 : (upd V1 E2 (.tup [])) E2 = some (.tup []) := upd_same
        generalize (upd V1 E2 (.tup [])) = V2 at k1 k2 ⊢
        refine ⟨.tuple (ys.map K1.lkE), .tuple [], .tup (SqT.of (k1 _ _ zP.l)) (lk_dp (zP.same k1).lk), .tup (SqT.of k2) .nil, lk_sh ys, nil_shT, _, rfl, ?_⟩
        rw [eqv_nilT]
        cases c2 : (ys.map K1.lkE).isEmpty with
        | false =>
          show if false = true then _ else _
          rw [if_neg Bool.false_ne_true]
          show if false = true then _ else _
          rw [if_neg Bool.false_ne_true]
          obtain ⟨po2, bo2, no2, ps2, b2, r, hO2, n21, n22, hpc, hr2⟩ := (oH.same k1).pc (zP.same k1) hw (zO.same k1)
          refine ⟨_, rfl, _, rfl, .ref OT, .ref PC, rfl, .inr ⟨OT, po2, bo2, no2, ps2, b2, rfl, hO2, n21, n22, r, hpc, fun H9 s9 => ⟨_, rfl, _, rfl, ?_⟩⟩⟩
          cases r with
          | false =>
            show if true = true then _ else _
            rw [if_pos rfl]
            exact q _
          | true =>
            show if (!true) = true then _ else _
            rw [if_neg (by decide)]
            refine ⟨_, rfl, BT, _, rfl, .inr (SqT.of (s9 _ _ (k1 _ _ zP.b))), rfl, by rw [List.all_map, List.all_eq_true]; exact fun _ _ => rfl, ?_⟩
            rw [inV_str, hr2 rfl]
            exact q _
        | true =>
        show if true = true then _ else _
        rw [if_pos rfl]
        refine ⟨_, rfl, t0, _, rfl, .inr (k1 _ _ ht0), _, _, rfl, rfl, _, rfl, ?_⟩
        rw [List.length_map]
        by_cases c3 : (1 : Int) < (es0.length : Nat)
        case neg =>
          rw [decide_eq_false c3]
          show if false = true then _ else _
          rw [if_neg Bool.false_ne_true]
          show if false = true then _ else _
          rw [if_neg Bool.false_ne_true]
          obtain ⟨po2, bo2, no2, ps2, b2, r, hO2, n21, n22, hpc, hr2⟩ := (oH.same k1).pc (zP.same k1) hw (zO.same k1)
          refine ⟨_, rfl, _, rfl, .ref OT, .ref PC, rfl, .inr ⟨OT, po2, bo2, no2, ps2, b2, rfl, hO2, n21, n22, r, hpc, fun H9 s9 => ⟨_, rfl, _, rfl, ?_⟩⟩⟩
          cases r with
          | false =>
            show if true = true then _ else _
            rw [if_pos rfl]
            exact q _
          | true =>
            show if (!true) = true then _ else _
            rw [if_neg (by decide)]
            refine ⟨_, rfl, BT, _, rfl, .inr (SqT.of (s9 _ _ (k1 _ _ zP.b))), rfl, by rw [List.all_map, List.all_eq_true]; exact fun _ _ => rfl, ?_⟩
            rw [inV_str, hr2 rfl]
            exact q _
        rw [decide_eq_true c3]
        show if true = true then _ else _
        rw [if_pos rfl]
        obtain ⟨f0, hf0⟩ : ∃ f0, es0[0]? = some f0 := ⟨_, List.getElem?_eq_getElem (by omega)⟩
        obtain ⟨f1, hf1⟩ : ∃ f1, es0[1]? = some f1 := ⟨_, List.getElem?_eq_getElem (by omega)⟩
        have lookE : ∀ x ∈ es0, ∃ y, K1.look ps x = some y := fun x hx => by
          obtain ⟨q, hq, e⟩ := List.mem_map.mp (hek x hx)
          exact ⟨q.2, by rw [← e]; exact look_some zS.P.nd hq⟩
        obtain ⟨y0, hy0⟩ := lookE f0 (List.mem_of_getElem? hf0)
        refine ⟨_, rfl, T, _, 0, _, rfl, rfl, SqL.of (k1 _ _ zS.t), at_of (j := 0) rfl rfl, _, rfl, t0, _, 0, .str f0, rfl, rfl, SqT.of (k1 _ _ ht0), at_of (j := 0) rfl (by rw [List.getElem?_map, hf0]; rfl), A', .str y0, rfl, ?_, _, rfl, t0, _, 1, .str f1, rfl, rfl, SqT.of (k1 _ _ ht0), at_of (j := 1) rfl (by rw [List.getElem?_map, hf1]; rfl), rfl, _, rfl, ?_⟩
        · have := DGet.k (k := Sum.inr f0) (k1 _ _ zS.a)
          rw [← sk_pl, sk_val, look_pl, hy0] at this
          exact this
        by_cases c4 : y0 = f1
        · rw [decide_eq_true (show V.str y0 = V.str f1 by rw [c4])]
          show if (!true) = true then _ else _
          rw [if_neg (by decide)]
          obtain ⟨po2, bo2, no2, ps2, b2, r, hO2, n21, n22, hpc, hr2⟩ := (oH.same k1).pc (zP.same k1) hw (zO.same k1)
          refine ⟨_, rfl, _, rfl, .ref OT, .ref PC, rfl, .inr ⟨OT, po2, bo2, no2, ps2, b2, rfl, hO2, n21, n22, r, hpc, fun H9 s9 => ⟨_, rfl, _, rfl, ?_⟩⟩⟩
          cases r with
          | false =>
            show if true = true then _ else _
            rw [if_pos rfl]
            exact q _
          | true =>
            show if (!true) = true then _ else _
            rw [if_neg (by decide)]
            refine ⟨_, rfl, BT, _, rfl, .inr (SqT.of (s9 _ _ (k1 _ _ zP.b))), rfl, by rw [List.all_map, List.all_eq_true]; exact fun _ _ => rfl, ?_⟩
            rw [inV_str, hr2 rfl]
            exact q _
        rw [decide_eq_false (show ¬ V.str y0 = V.str f1 from fun z => c4 (V.str.inj z))]
        show if (!false) = true then _ else _
        rw [if_pos (by decide)]
        refine ⟨_, rfl, _, rfl, Nat.le_of_lt (small1000 (n := 2) (by decide)), fun p1 np1 => ?_⟩
        have j1 : Same V2 (upd V2 p1 (.tup [.int 0, .int 0])) := same_upd np1
        have f1' : (upd V2 p1 (.tup [.int 0, .int 0])) p1 = some (.tup [.int 0, .int 0]) := upd_same
        generalize (upd V2 p1 (.tup [.int 0, .int 0])) = V3 at j1 f1' ⊢
        refine ⟨Nat.le_of_lt (small1000 (n := 2) (by decide)), fun p2 np2 => ?_⟩
        have j2 : Same V3 (upd V3 p2 (.tup [.int 0, .int 1])) := same_upd np2
        have f2' : (upd V3 p2 (.tup [.int 0, .int 1])) p2 = some (.tup [.int 0, .int 1]) := upd_same
        generalize (upd V3 p2 (.tup [.int 0, .int 1])) = V4 at j2 f2' ⊢
        refine ⟨Nat.le_of_lt (small1000 (n := 2) (by decide)), fun p3 np3 => ?_⟩
        have j3 : Same V4 (upd V4 p3 (.tup [.ref p1, .ref p2])) := same_upd np3
        have f3' : (upd V4 p3 (.tup [.ref p1, .ref p2])) p3 = some (.tup [.ref p1, .ref p2]) := upd_same
        generalize (upd V4 p3 (.tup [.ref p1, .ref p2])) = V5 at j3 f3' ⊢
        refine ⟨Nat.le_of_lt (small1000 (n := 1) (by decide)), fun p4 np4 => ?_⟩
        have j4 : Same V5 (upd V5 p4 (.lst [.ref p3])) := same_upd np4
        have f4' : (upd V5 p4 (.lst [.ref p3])) p4 = some (.lst [.ref p3]) := upd_same
        generalize (upd V5 p4 (.lst [.ref p3])) = V6 at j4 f4' ⊢
        have g3' := j4 _ _ f3'
        have g2' := j4 _ _ (j3 _ _ f2')
        have g1' := j4 _ _ (j3 _ _ (j2 _ _ f1'))
        have j6 : Same V1 V6 := (((k1.trans j1).trans j2).trans j3).trans j4
        refine fun P3 dx4 nP3 ndx4 nds4 => ?_
        have w4 : Same V6 (upd (upd V6 dx4 (.own P3)) P3 (.ins CP dx4 [])) := fun b o e => by rw [upd_ne (ne_of_none e nP3), upd_ne (ne_of_none e ndx4)]; exact e
        have zP6 := (zP.same j6).same w4
        have hlen1 : (nms.map V.str).length = 1 := by rw [List.length_map]; exact c1
        refine piece_ok upd_same (zP6.cp hw (.inr zP6.b)) (.inr zP6.b) (by rw [hlen1]; exact Nat.le_refl _) (by rw [hlen1]; decide) (by rw [hlen1]; exact LnV.own (.inl (w4 _ _ f4')) (w4 _ _ g3') (w4 _ _ g1') (w4 _ _ g2')) (.inl (w4 _ _ f4')) (fun bt3 lt3 V7 hA3 k7 => ⟨rfl, ?_⟩)
        have j7 : Same V6 V7 := fun b o e => k7 b o (ne_of_none e nP3) (w4 _ _ e)
        have j17 := j6.trans j7
        have zP7 := zP.same j17
        have wf3 : PcWf CP V7 P3 bt3 lt3 nms [.ref p3] := ⟨hA3, zP7.wd hw, zP7.n1, by omega, by rw [c1]; exact LnV.own (.inr hA3.l) (j7 _ _ g3') (j7 _ _ g1') (j7 _ _ g2')⟩
        have fit3 : FitV V7 ps (bl bs) nms [.ref p3] false := by
          refine ⟨[((0, 0), (0, 1))], [false], rfl, rfl, fun i x p r u1 u2 u3 => ?_, rfl⟩
          match i, u1, u2, u3 with
          | 0, u1, u2, u3 =>
            cases u1
            cases u2
            cases u3
            refine ⟨p1, p2, ⟨p3, rfl, j7 _ _ g3', j7 _ _ g1', j7 _ _ g2'⟩, 0, 0, 0, 1, m0, m0, t0, t0, es0, es0, ⟨rfl, rfl, hm0, hm0, by rw [look_bl, hl0]; rfl, by rw [look_bl, hl0]; rfl, j17 _ _ ht0, j17 _ _ ht0⟩, ?_, lookE⟩
            unfold fitE
            rw [hf0, hf1]
            show false = decide (K1.look ps f0 = some f1)
            rw [hy0]
            exact (decide_eq_false fun z => c4 (Option.some.inj z)).symm
        refine ⟨.ref SH, .ref P3, rfl, .inr ⟨SH, pp, bp, np, ps, bl bs, rfl, zA.same j17, ndP, ndB, false, .fit wf3 zP7.has fit3, fun V8 j8 => ⟨_, rfl, ?_⟩⟩⟩
        show if false = true then _ else _
        rw [if_neg Bool.false_ne_true]
        obtain ⟨po2, bo2, no2, ps2, b2, r, hO2, n21, n22, hpc, hr2⟩ := (oH.same (j17.trans j8)).pc (zP.same (j17.trans j8)) hw (zO.same (j17.trans j8))
        refine ⟨_, rfl, _, rfl, .ref OT, .ref PC, rfl, .inr ⟨OT, po2, bo2, no2, ps2, b2, rfl, hO2, n21, n22, r, hpc, fun H9 s9 => ⟨_, rfl, _, rfl, ?_⟩⟩⟩
        cases r with
        | false =>
          show if true = true then _ else _
          rw [if_pos rfl]
          exact q _
        | true =>
          show if (!true) = true then _ else _
          rw [if_neg (by decide)]
          refine ⟨_, rfl, BT, _, rfl, .inr (SqT.of (s9 _ _ ((j17.trans j8) _ _ zP.b))), rfl, by rw [List.all_map, List.all_eq_true]; exact fun _ _ => rfl, ?_⟩
          rw [inV_str, hr2 rfl]
          exact q _
      | false =>
        show if false = true then _ else _
        rw [if_neg Bool.false_ne_true]
        have hl8 : K1.look bs "zzzzzzzz" = none := by
          unfold bk at hz8
          rw [valV_map] at hz8
          cases e : K1.look bs "zzzzzzzz" with
          | none => rfl
          | some x => rw [e] at hz8; cases hz8
        have npc : Npc CP U8 bs v := by
          rcases hvv with h | h
          · exact .inl h
          · exact .inr ⟨PZ, btz, ltz, h, hZ8, hl8⟩
        clear hvv hZ8 hz8 hl8
        refine ⟨_, rfl, Nat.le_of_lt (small1000 (n := 2) (by decide)), fun TB2 nTB => ?_⟩
        have s9 : Same U8 (upd U8 TB2 (.tup [v, .str "piece"])) := same_upd nTB
        have e9 : (upd U8 TB2 (.tup [v, .str "piece"])) TB2 = some (.tup [v, .str "piece"]) := upd_same
        generalize (upd U8 TB2 (.tup [v, .str "piece"])) = V0 at s9 e9 ⊢
        have y1S := (q1S.same s9).noT
        have y1P := (q1P.same s9).noT
        have y1A := (q1A.same s9).noT
        have y1O := (q1O.same s9).noT
        have y1H := (q1H.same s9).noT
        have y1t := tab_sm q1T s9
        have y1e := tupNoT _ _ e9
        have npcs : ∀ x ∈ [v, V.str "piece"], Npc CP (noT V0) bs x := fun x hx => by
          rcases List.mem_cons.mp hx with rfl | hx
          · exact (npc.same s9).noT
          · rw [List.mem_singleton.mp hx]
            exact .inl ⟨_, .str _⟩
        clear q1S q1P q1A q1O q1H q1T npc s9
        refine ⟨TB2, rfl, ⟨_, SqT.of e9⟩, ?_⟩
        refine for_tup (K := K) (a := TB2) (xs := [v, .str "piece"]) (fun i σ H' => (∃ v16, (i ≠ 0 → ∃ u, v16 = some u) ∧ σ = [some (.ref a), some (.ref d), some (.ref T), some (.ref BT), some (.ref LT), some (.ref G), some (.ref MO), none, some (.ref FR), some (.ref AM), v10, none, some (.ref FD), some (.ref OT), some v, none, v16, v17, some (.ref PC), some (.ref SH)]) ∧ Same (noT V0) H' ∧ LamX.TabS H' Pt qn) ⟨⟨_, fun z => absurd rfl z, rfl⟩, noT_sub, y1t⟩ (fun i σ H' _ q => SqT.of (q.2.1 _ _ y1e)) ?_ ?_
        · rintro i x σ H' hx ⟨⟨v16, _, rfl⟩, s1, t1⟩
          have nx := npcs x (List.mem_of_getElem? hx)
          refine ⟨_, rfl, _, rfl, .ref SH, x, rfl, .inr ⟨SH, pp, bp, np, ps, bl bs, rfl, y1A.same s1, ndP, ndB, false, (nx.same s1).pc ps, fun H2 s2 => ⟨_, rfl, ?_⟩⟩⟩
          show if false = true then _ else _
          rw [if_neg Bool.false_ne_true]
          have t2 := tab_sm t1 s2
          have g2 := s1.trans s2
          refine ⟨fun q hq => by rw [List.mem_singleton.mp hq]; exact t2, fun X3 eN tN => ?_⟩
          have h3 := noT_ext g2 eN
          refine ⟨_, rfl, _, rfl, .ref SH, x, rfl, .inr ⟨SH, pp, bp, np, ps, bl bs, rfl, y1A.same h3, ndP, ndB, .inl ⟨(nx.same h3).pc ps, fun Y3 s3 => ⟨rfl, .inr ⟨rfl, rfl, false, by simp, ?_⟩⟩⟩⟩⟩
          show if false = true then _ else _
          rw [if_neg Bool.false_ne_true]
          have t3 := tab_sm (tN (Pt, qn) (List.mem_singleton.mpr rfl)) s3
          have g3 := h3.trans s3
          clear eN tN
          refine ⟨fun q hq => by rw [List.mem_singleton.mp hq]; exact t3, fun X4 eN tN => ?_⟩
          have h4 := noT_ext g3 eN
          refine ⟨_, rfl, _, rfl, .ref SH, x, rfl, .inr ⟨SH, pp, bp, np, ps, bl bs, rfl, y1A.same h4, ndP, ndB, .inl ⟨(nx.same h4).pc ps, fun Y4 s4 => ⟨rfl, .inr ⟨rfl, rfl, false, by simp, ?_⟩⟩⟩⟩⟩
          show if false = true then _ else _
          rw [if_neg Bool.false_ne_true]
          have t4 := tab_sm (tN (Pt, qn) (List.mem_singleton.mpr rfl)) s4
          have g4 := h4.trans s4
          clear eN tN
          refine ⟨fun q hq => by rw [List.mem_singleton.mp hq]; exact t4, fun X5 eN tN => ?_⟩
          have h5 := noT_ext g4 eN
          refine ⟨_, rfl, _, rfl, .ref SH, x, rfl, .inr ⟨SH, pp, bp, np, ps, bl bs, rfl, y1A.same h5, ndP, ndB, .inl ⟨(nx.same h5).pc ps, fun Y5 s5 => ⟨rfl, .inr ⟨rfl, rfl, false, by simp, ?_⟩⟩⟩⟩⟩
          show if false = true then _ else _
          rw [if_neg Bool.false_ne_true]
          have t5 := tab_sm (tN (Pt, qn) (List.mem_singleton.mpr rfl)) s5
          have g5 := h5.trans s5
          clear eN tN
          exact ⟨⟨_, fun _ => ⟨_, rfl⟩, rfl⟩, g5, t5⟩
        rintro σ H' ⟨⟨v16, hv16, rfl⟩, s1, t1⟩
        obtain ⟨u16, rfl⟩ := hv16 (by show 2 ≠ 0; decide)
        refine ⟨fun q hq => by rw [List.mem_singleton.mp hq]; exact t1, fun X1 eN tN => ?_⟩
        have h3 := noT_ext s1 eN
        refine ⟨_, rfl, .non, u16, rfl, .inl ⟨.non, .non, rfl, .inl ⟨rfl, rfl, false, by simp, ?_⟩⟩⟩
        show if false = true then _ else _
        rw [if_neg Bool.false_ne_true]
        have t3 := tN (Pt, qn) (List.mem_singleton.mpr rfl)
        refine ⟨fun q hq => by rw [List.mem_singleton.mp hq]; exact t3, fun X2 eN2 tN2 => ?_⟩
        have h4 := noT_ext h3 eN2
        refine fun ED nED => ⟨_, rfl, .ref ED, .ref PC, rfl, .inl ⟨.dct [], .dct upd_same, rfl, .inl ⟨rfl, rfl, false, by simp, ?_⟩⟩⟩
        show if false = true then _ else _
        rw [if_neg Bool.false_ne_true]
        have h5 : Same (noT V0) (upd X2 ED (.dK [])) := h4.trans (same_upd nED)
        generalize (upd X2 ED (.dK [])) = V1 at h5 ⊢
        have zS := y1S.same h5
        have zP := y1P.same h5
        have zA := y1A.same h5
        have zO := y1O.same h5
        have oH := y1H.same h5
        clear h5 h4 h3 s1 t1 t3 eN tN eN2 tN2 nED y1S y1P y1A y1O y1H y1t y1e npcs e9
        -- ends
        have n1 := zP.n1
        obtain ⟨m0, hm0⟩ : ∃ m0, nms[0]? = some m0 := ⟨_, List.getElem?_eq_getElem n1⟩
        obtain ⟨es0, hs0⟩ : ∃ es0, ess[0]? = some es0 := ⟨_, List.getElem?_eq_getElem (by rw [zP.es.1]; exact n1)⟩
        obtain ⟨t0, hl0, ht0, e1', e4', hek⟩ := zP.es.2 0 m0 es0 hm0 hs0
        refine ⟨_, rfl, T, _, 1, _, rfl, rfl, SqL.of zS.t, at_of (j := 1) rfl rfl, _, rfl, BT, _, 0, .str m0, rfl, rfl, SqT.of zP.b, at_of (j := 0) rfl (by rw [List.getElem?_map, hm0]; rfl), B, .ref t0, rfl, ?_, ?_⟩
        · have := DGet.k (k := Sum.inr m0) zS.b
          rw [bk_val, hl0] at this
          exact this
        -- len(blocks) == 1
        refine ⟨_, rfl, BT, _, rfl, .inr zP.b, rfl, _, rfl, ?_⟩
        by_cases c1 : nms.length = 1
        case neg =>
          rw [decide_eq_false (show ¬ V.int (((nms.map V.str).length : Nat) : Int) = V.int 1 from fun z => c1 (by have := V.int.inj z; rw [List.length_map] at this; omega))]
          show if false = true then _ else _
          rw [if_neg Bool.false_ne_true]
          show if false = true then _ else _
          rw [if_neg Bool.false_ne_true]
          obtain ⟨po2, bo2, no2, ps2, b2, r, hO2, n21, n22, hpc, hr2⟩ := (oH.same (Same.refl V1)).pc (zP.same (Same.refl V1)) hw (zO.same (Same.refl V1))
          refine ⟨_, rfl, _, rfl, .ref OT, .ref PC, rfl, .inr ⟨OT, po2, bo2, no2, ps2, b2, rfl, hO2, n21, n22, r, hpc, fun H9 s9 => ⟨_, rfl, _, rfl, ?_⟩⟩⟩
          cases r with
          | false =>
            show if true = true then _ else _
            rw [if_pos rfl]
            exact q _
          | true =>
            show if (!true) = true then _ else _
            rw [if_neg (by decide)]
            refine ⟨_, rfl, BT, _, rfl, .inr (SqT.of (s9 _ _ ((Same.refl V1) _ _ zP.b))), rfl, by rw [List.all_map, List.all_eq_true]; exact fun _ _ => rfl, ?_⟩
            rw [inV_str, hr2 rfl]
            exact q _
        rw [decide_eq_true (show V.int (((nms.map V.str).length : Nat) : Int) = V.int 1 by rw [List.length_map, c1]; rfl)]
        show if true = true then _ else _
        rw [if_pos rfl]
        refine ⟨_, rfl, Nat.zero_le _, fun E2 nE2 => ?_⟩
        have k1 : Same V1 (upd V1 E2 (.tup [])) := same_upd nE2
        have k2 : (upd V1 E2 (.tup [])) E2 = some (.tup []) := upd_same
        generalize (upd V1 E2 (.tup [])) = V2 at k1 k2 ⊢
        refine ⟨.tuple (ys.map K1.lkE), .tuple [], .tup (SqT.of (k1 _ _ zP.l)) (lk_dp (zP.same k1).lk), .tup (SqT.of k2) .nil, lk_sh ys, nil_shT, _, rfl, ?_⟩
        rw [eqv_nilT]
        cases c2 : (ys.map K1.lkE).isEmpty with
        | false =>
          show if false = true then _ else _
          rw [if_neg Bool.false_ne_true]
          show if false = true then _ else _
          rw [if_neg Bool.false_ne_true]
          obtain ⟨po2, bo2, no2, ps2, b2, r, hO2, n21, n22, hpc, hr2⟩ := (oH.same k1).pc (zP.same k1) hw (zO.same k1)
          refine ⟨_, rfl, _, rfl, .ref OT, .ref PC, rfl, .inr ⟨OT, po2, bo2, no2, ps2, b2, rfl, hO2, n21, n22, r, hpc, fun H9 s9 => ⟨_, rfl, _, rfl, ?_⟩⟩⟩
          cases r with
          | false =>
            show if true = true then _ else _
            rw [if_pos rfl]
            exact q _
          | true =>
            show if (!true) = true then _ else _
            rw [if_neg (by decide)]
            refine ⟨_, rfl, BT, _, rfl, .inr (SqT.of (s9 _ _ (k1 _ _ zP.b))), rfl, by rw [List.all_map, List.all_eq_true]; exact fun _ _ => rfl, ?_⟩
            rw [inV_str, hr2 rfl]
            exact q _
        | true =>
        show if true = true then _ else _
        rw [if_pos rfl]
        refine ⟨_, rfl, t0, _, rfl, .inr (k1 _ _ ht0), _, _, rfl, rfl, _, rfl, ?_⟩
        rw [List.length_map]
        by_cases c3 : (1 : Int) < (es0.length : Nat)
        case neg =>
          rw [decide_eq_false c3]
          show if false = true then _ else _
          rw [if_neg Bool.false_ne_true]
          show if false = true then _ else _
          rw [if_neg Bool.false_ne_true]
          obtain ⟨po2, bo2, no2, ps2, b2, r, hO2, n21, n22, hpc, hr2⟩ := (oH.same k1).pc (zP.same k1) hw (zO.same k1)
          refine ⟨_, rfl, _, rfl, .ref OT, .ref PC, rfl, .inr ⟨OT, po2, bo2, no2, ps2, b2, rfl, hO2, n21, n22, r, hpc, fun H9 s9 => ⟨_, rfl, _, rfl, ?_⟩⟩⟩
          cases r with
          | false =>
            show if true = true then _ else _
            rw [if_pos rfl]
            exact q _
          | true =>
            show if (!true) = true then _ else _
            rw [if_neg (by decide)]
            refine ⟨_, rfl, BT, _, rfl, .inr (SqT.of (s9 _ _ (k1 _ _ zP.b))), rfl, by rw [List.all_map, List.all_eq_true]; exact fun _ _ => rfl, ?_⟩
            rw [inV_str, hr2 rfl]
            exact q _
        rw [decide_eq_true c3]
        show if true = true then _ else _
        rw [if_pos rfl]
        obtain ⟨f0, hf0⟩ : ∃ f0, es0[0]? = some f0 := ⟨_, List.getElem?_eq_getElem (by omega)⟩
        obtain ⟨f1, hf1⟩ : ∃ f1, es0[1]? = some f1 := ⟨_, List.getElem?_eq_getElem (by omega)⟩
        have lookE : ∀ x ∈ es0, ∃ y, K1.look ps x = some y := fun x hx => by
          obtain ⟨q, hq, e⟩ := List.mem_map.mp (hek x hx)
          exact ⟨q.2, by rw [← e]; exact look_some zS.P.nd hq⟩
        obtain ⟨y0, hy0⟩ := lookE f0 (List.mem_of_getElem? hf0)
        refine ⟨_, rfl, T, _, 0, _, rfl, rfl, SqL.of (k1 _ _ zS.t), at_of (j := 0) rfl rfl, _, rfl, t0, _, 0, .str f0, rfl, rfl, SqT.of (k1 _ _ ht0), at_of (j := 0) rfl (by rw [List.getElem?_map, hf0]; rfl), A', .str y0, rfl, ?_, _, rfl, t0, _, 1, .str f1, rfl, rfl, SqT.of (k1 _ _ ht0), at_of (j := 1) rfl (by rw [List.getElem?_map, hf1]; rfl), rfl, _, rfl, ?_⟩
        · have := DGet.k (k := Sum.inr f0) (k1 _ _ zS.a)
          rw [← sk_pl, sk_val, look_pl, hy0] at this
          exact this
        by_cases c4 : y0 = f1
        · rw [decide_eq_true (show V.str y0 = V.str f1 by rw [c4])]
          show if (!true) = true then _ else _
          rw [if_neg (by decide)]
          obtain ⟨po2, bo2, no2, ps2, b2, r, hO2, n21, n22, hpc, hr2⟩ := (oH.same k1).pc (zP.same k1) hw (zO.same k1)
          refine ⟨_, rfl, _, rfl, .ref OT, .ref PC, rfl, .inr ⟨OT, po2, bo2, no2, ps2, b2, rfl, hO2, n21, n22, r, hpc, fun H9 s9 => ⟨_, rfl, _, rfl, ?_⟩⟩⟩
          cases r with
          | false =>
            show if true = true then _ else _
            rw [if_pos rfl]
            exact q _
          | true =>
            show if (!true) = true then _ else _
            rw [if_neg (by decide)]
            refine ⟨_, rfl, BT, _, rfl, .inr (SqT.of (s9 _ _ (k1 _ _ zP.b))), rfl, by rw [List.all_map, List.all_eq_true]; exact fun _ _ => rfl, ?_⟩
            rw [inV_str, hr2 rfl]
            exact q _
        rw [decide_eq_false (show ¬ V.str y0 = V.str f1 from fun z => c4 (V.str.inj z))]
        show if (!false) = true then _ else _
        rw [if_pos (by decide)]
        refine ⟨_, rfl, _, rfl, Nat.le_of_lt (small1000 (n := 2) (by decide)), fun p1 np1 => ?_⟩
        have j1 : Same V2 (upd V2 p1 (.tup [.int 0, .int 0])) := same_upd np1
        have f1' : (upd V2 p1 (.tup [.int 0, .int 0])) p1 = some (.tup [.int 0, .int 0]) := upd_same
        generalize (upd V2 p1 (.tup [.int 0, .int 0])) = V3 at j1 f1' ⊢
        refine ⟨Nat.le_of_lt (small1000 (n := 2) (by decide)), fun p2 np2 => ?_⟩
        have j2 : Same V3 (upd V3 p2 (.tup [.int 0, .int 1])) := same_upd np2
        have f2' : (upd V3 p2 (.tup [.int 0, .int 1])) p2 = some (.tup [.int 0, .int 1]) := upd_same
        generalize (upd V3 p2 (.tup [.int 0, .int 1])) = V4 at j2 f2' ⊢
        refine ⟨Nat.le_of_lt (small1000 (n := 2) (by decide)), fun p3 np3 => ?_⟩
        have j3 : Same V4 (upd V4 p3 (.tup [.ref p1, .ref p2])) := same_upd np3
        have f3' : (upd V4 p3 (.tup [.ref p1, .ref p2])) p3 = some (.tup [.ref p1, .ref p2]) := upd_same
        generalize (upd V4 p3 (.tup [.ref p1, .ref p2])) = V5 at j3 f3' ⊢
        refine ⟨Nat.le_of_lt (small1000 (n := 1) (by decide)), fun p4 np4 => ?_⟩
        have j4 : Same V5 (upd V5 p4 (.lst [.ref p3])) := same_upd np4
        have f4' : (upd V5 p4 (.lst [.ref p3])) p4 = some (.lst [.ref p3]) := upd_same
        generalize (upd V5 p4 (.lst [.ref p3])) = V6 at j4 f4' ⊢
        have g3' := j4 _ _ f3'
        have g2' := j4 _ _ (j3 _ _ f2')
        have g1' := j4 _ _ (j3 _ _ (j2 _ _ f1'))
        have j6 : Same V1 V6 := (((k1.trans j1).trans j2).trans j3).trans j4
        refine fun P3 dx4 nP3 ndx4 nds4 => ?_
        have w4 : Same V6 (upd (upd V6 dx4 (.own P3)) P3 (.ins CP dx4 [])) := fun b o e => by rw [upd_ne (ne_of_none e nP3), upd_ne (ne_of_none e ndx4)]; exact e
        have zP6 := (zP.same j6).same w4
        have hlen1 : (nms.map V.str).length = 1 := by rw [List.length_map]; exact c1
        refine piece_ok upd_same (zP6.cp hw (.inr zP6.b)) (.inr zP6.b) (by rw [hlen1]; exact Nat.le_refl _) (by rw [hlen1]; decide) (by rw [hlen1]; exact LnV.own (.inl (w4 _ _ f4')) (w4 _ _ g3') (w4 _ _ g1') (w4 _ _ g2')) (.inl (w4 _ _ f4')) (fun bt3 lt3 V7 hA3 k7 => ⟨rfl, ?_⟩)
        have j7 : Same V6 V7 := fun b o e => k7 b o (ne_of_none e nP3) (w4 _ _ e)
        have j17 := j6.trans j7
        have zP7 := zP.same j17
        have wf3 : PcWf CP V7 P3 bt3 lt3 nms [.ref p3] := ⟨hA3, zP7.wd hw, zP7.n1, by omega, by rw [c1]; exact LnV.own (.inr hA3.l) (j7 _ _ g3') (j7 _ _ g1') (j7 _ _ g2')⟩
        have fit3 : FitV V7 ps (bl bs) nms [.ref p3] false := by
          refine ⟨[((0, 0), (0, 1))], [false], rfl, rfl, fun i x p r u1 u2 u3 => ?_, rfl⟩
          match i, u1, u2, u3 with
          | 0, u1, u2, u3 =>
            cases u1
            cases u2
            cases u3
            refine ⟨p1, p2, ⟨p3, rfl, j7 _ _ g3', j7 _ _ g1', j7 _ _ g2'⟩, 0, 0, 0, 1, m0, m0, t0, t0, es0, es0, ⟨rfl, rfl, hm0, hm0, by rw [look_bl, hl0]; rfl, by rw [look_bl, hl0]; rfl, j17 _ _ ht0, j17 _ _ ht0⟩, ?_, lookE⟩
            unfold fitE
            rw [hf0, hf1]
            show false = decide (K1.look ps f0 = some f1)
            rw [hy0]
            exact (decide_eq_false fun z => c4 (Option.some.inj z)).symm
        refine ⟨.ref SH, .ref P3, rfl, .inr ⟨SH, pp, bp, np, ps, bl bs, rfl, zA.same j17, ndP, ndB, false, .fit wf3 zP7.has fit3, fun V8 j8 => ⟨_, rfl, ?_⟩⟩⟩
        show if false = true then _ else _
        rw [if_neg Bool.false_ne_true]
        obtain ⟨po2, bo2, no2, ps2, b2, r, hO2, n21, n22, hpc, hr2⟩ := (oH.same (j17.trans j8)).pc (zP.same (j17.trans j8)) hw (zO.same (j17.trans j8))
        refine ⟨_, rfl, _, rfl, .ref OT, .ref PC, rfl, .inr ⟨OT, po2, bo2, no2, ps2, b2, rfl, hO2, n21, n22, r, hpc, fun H9 s9 => ⟨_, rfl, _, rfl, ?_⟩⟩⟩
        cases r with
        | false =>
          show if true = true then _ else _
          rw [if_pos rfl]
          exact q _
        | true =>
          show if (!true) = true then _ else _
          rw [if_neg (by decide)]
          refine ⟨_, rfl, BT, _, rfl, .inr (SqT.of (s9 _ _ ((j17.trans j8) _ _ zP.b))), rfl, by rw [List.all_map, List.all_eq_true]; exact fun _ _ => rfl, ?_⟩
          rw [inV_str, hr2 rfl]
          exact q _
end
end K1

set_option Elab.async false
set_option linter.all false
set_option maxRecDepth 100000
set_option maxHeartbeats 4000000
namespace K1
open PySem PySem.Spec PyProof.Rows L2
theorem cls_two {K : PySem.W.Frag} {a : Value} {b : Addr} {r : Bool} (h2 : PySem.W.isClsIn K b = true) (h3 : PySem.W.typeIn K (.ref b) = some (.type "type")) (h4 : PySem.W.subIn K a (.ref b) = some r) : PySem.W.kitCls K a (.ref b) = some r := by
  have e2 : ((PySem.W.clsIn K b).isSome && PySem.W.typeIn K (.ref b) == some (.type "type")) = true := by
    have h2' : (PySem.W.clsIn K b).isSome = true := h2
    rw [h2', h3] <;> rfl
  show (if ((PySem.W.clsIn K b).isSome && PySem.W.typeIn K (.ref b) == some (.type "type")) = true then PySem.W.subIn K a (.ref b) else none) = some r
  rw [if_pos e2]
  exact h4
theorem exm_two {K : PySem.W.Frag} {a b : Addr} {r : Bool} (h1 : PySem.W.subIn K (.ref b) (.type "BaseException") = some true) (h2 : PySem.W.isClsIn K b = true) (h3 : PySem.W.typeIn K (.ref b) = some (.type "type")) (h4 : PySem.W.subIn K (.ref a) (.ref b) = some r) : PySem.W.exmOne K (.ref a) (.ref b) = some r := by
  have e1 : (PySem.W.subIn K (.ref b) (.type "BaseException") == some true) = true := by rw [h1] <;> rfl
  unfold PySem.W.exmOne
  rw [if_pos e1]
  exact cls_two h2 h3 h4
theorem kit_no {K : PySem.W.Frag} {a : String} {b : Addr} (h2 : PySem.W.isClsIn K b = true) (h3 : PySem.W.typeIn K (.ref b) = some (.type "type")) (h4 : PySem.W.subIn K (.type a) (.ref b) = some false) : PySem.W.kitOne K (.type a) (.ref b) = some false := by
  unfold PySem.W.kitOne
  rw [if_neg (show ¬ ((Value.type a == Value.ref b) = true) from fun z => by cases z)]
  exact cls_two h2 h3 h4
theorem all_mk {l : PySem.W.OpenLaw} {w : World} {K : PySem.W.Frag} {h : Heap} {mg : Str → Option Value} {fa f_iin f_let f_wrd f_apt f_aen f_abk f_chk f_plc f_lnk f_lks f_fit f_fac f_pts f_pfr f_cop f_lkd f_ipo f_cpc f_fre f_rin f_amo f_cel f_drw f_num f_nxt f_pik f_lwd f_voc f_par f_blo f_sht f_len f_llk f_lfr f_lhu f_lpc f_err f_spo f_law C CQ f_ini f_ptr f_end f_con f_pin f_pln f_peq CB CN CK CE cc Pt : Addr} (X : K.In h) (G : h.Ns mainGlobals mg) (hfa : mg "law" = some (.ref fa)) (own : LamX.OwnTab K fa h)
    {od_iin an_iin od_let an_let od_wrd an_wrd od_apt an_apt od_aen an_aen od_abk an_abk od_chk an_chk od_plc an_plc od_lnk an_lnk od_lks an_lks od_fit an_fit od_fac an_fac od_pts an_pts od_pfr an_pfr od_cop an_cop od_lkd an_lkd od_ipo an_ipo od_cpc an_cpc od_fre an_fre od_rin an_rin od_amo an_amo od_cel an_cel od_drw an_drw od_num an_num od_nxt an_nxt od_pik an_pik od_lwd an_lwd od_voc an_voc od_par an_par od_blo an_blo od_sht an_sht od_len an_len od_llk an_llk od_lfr an_lfr od_lhu an_lhu od_lpc an_lpc od_err an_err od_spo an_spo od_law an_law od_ini an_ini od_ptr an_ptr od_end an_end od_con an_con od_pin an_pin od_pln an_pln od_peq an_peq dcc : Option Addr} {sl_iin sl_let sl_wrd sl_apt sl_aen sl_abk sl_chk sl_plc sl_lnk sl_lks sl_fit sl_fac sl_pts sl_pfr sl_cop sl_lkd sl_ipo sl_cpc sl_fre sl_rin sl_amo sl_cel sl_drw sl_num sl_nxt sl_pik sl_lwd sl_voc sl_par sl_blo sl_sht sl_len sl_llk sl_lfr sl_lhu sl_lpc sl_err sl_spo sl_law sl_ini sl_ptr sl_end sl_con sl_pin sl_pln sl_peq slc : Array (Option Value)} {oc_iin kV_iin dc_iin pm_iin ct_iin cd_iin oc_let kV_let dc_let pm_let ct_let cd_let oc_wrd kV_wrd dc_wrd pm_wrd ct_wrd cd_wrd oc_apt kV_apt dc_apt pm_apt ct_apt cd_apt oc_aen kV_aen dc_aen pm_aen ct_aen cd_aen oc_abk kV_abk dc_abk pm_abk ct_abk cd_abk oc_chk kV_chk dc_chk pm_chk ct_chk cd_chk oc_plc kV_plc dc_plc pm_plc ct_plc cd_plc oc_lnk kV_lnk dc_lnk pm_lnk ct_lnk cd_lnk oc_lks kV_lks dc_lks pm_lks ct_lks cd_lks oc_fit kV_fit dc_fit pm_fit ct_fit cd_fit oc_fac kV_fac dc_fac pm_fac ct_fac cd_fac oc_pts kV_pts dc_pts pm_pts ct_pts cd_pts oc_pfr kV_pfr dc_pfr pm_pfr ct_pfr cd_pfr oc_cop kV_cop dc_cop pm_cop ct_cop cd_cop oc_lkd kV_lkd dc_lkd pm_lkd ct_lkd cd_lkd oc_ipo kV_ipo dc_ipo pm_ipo ct_ipo cd_ipo oc_cpc kV_cpc dc_cpc pm_cpc ct_cpc cd_cpc oc_fre kV_fre dc_fre pm_fre ct_fre cd_fre oc_rin kV_rin dc_rin pm_rin ct_rin cd_rin oc_amo kV_amo dc_amo pm_amo ct_amo cd_amo oc_cel kV_cel dc_cel pm_cel ct_cel cd_cel oc_drw kV_drw dc_drw pm_drw ct_drw cd_drw oc_num kV_num dc_num pm_num ct_num cd_num oc_nxt kV_nxt dc_nxt pm_nxt ct_nxt cd_nxt oc_pik kV_pik dc_pik pm_pik ct_pik cd_pik oc_lwd kV_lwd dc_lwd pm_lwd ct_lwd cd_lwd oc_voc kV_voc dc_voc pm_voc ct_voc cd_voc oc_par kV_par dc_par pm_par ct_par cd_par oc_blo kV_blo dc_blo pm_blo ct_blo cd_blo oc_sht kV_sht dc_sht pm_sht ct_sht cd_sht oc_len kV_len dc_len pm_len ct_len cd_len oc_llk kV_llk dc_llk pm_llk ct_llk cd_llk oc_lfr kV_lfr dc_lfr pm_lfr ct_lfr cd_lfr oc_lhu kV_lhu dc_lhu pm_lhu ct_lhu cd_lhu oc_lpc kV_lpc dc_lpc pm_lpc ct_lpc cd_lpc oc_err kV_err dc_err pm_err ct_err cd_err oc_spo kV_spo dc_spo pm_spo ct_spo cd_spo oc_law kV_law dc_law pm_law ct_law oc_ini kV_ini dc_ini pm_ini ct_ini cd_ini oc_ptr kV_ptr dc_ptr pm_ptr ct_ptr cd_ptr oc_end kV_end dc_end pm_end ct_end cd_end oc_con kV_con dc_con pm_con ct_con cd_con oc_pin kV_pin dc_pin pm_pin ct_pin cd_pin oc_pln kV_pln dc_pln pm_pln ct_pln cd_pln oc_peq kV_peq dc_peq pm_peq ct_peq cd_peq ec : Value} {vsc : Array Value} {t8 t4 t200 : Tok}
    (a_iin : PySem.W.nsIn K mainGlobals "is_int" = some (some (.ref f_iin)))
    (l_iin : K.lookup f_iin = some ⟨oc_iin, od_iin, .func (PySem.W.fnOf "is_int" "is_int" (defArgs sIsInt) (defBody sIsInt) (defScope sIsInt) .none kV_iin dc_iin pm_iin an_iin cd_iin ct_iin), sl_iin⟩)
    (c_iin : PySem.W.codeIn K cd_iin "is_int" = true)
    (k_iin : PySem.W.keepIn K (.ref f_iin) = true)
    (a_let : PySem.W.nsIn K mainGlobals "is_letter" = some (some (.ref f_let)))
    (l_let : K.lookup f_let = some ⟨oc_let, od_let, .func (PySem.W.fnOf "is_letter" "is_letter" (defArgs sLetter) (defBody sLetter) (defScope sLetter) .none kV_let dc_let pm_let an_let cd_let ct_let), sl_let⟩)
    (c_let : PySem.W.codeIn K cd_let "is_letter" = true)
    (k_let : PySem.W.keepIn K (.ref f_let) = true)
    (a_wrd : PySem.W.nsIn K mainGlobals "is_word" = some (some (.ref f_wrd)))
    (l_wrd : K.lookup f_wrd = some ⟨oc_wrd, od_wrd, .func (PySem.W.fnOf "is_word" "is_word" (defArgs sIsWord) (defBody sIsWord) (defScope sIsWord) .none kV_wrd dc_wrd pm_wrd an_wrd cd_wrd ct_wrd), sl_wrd⟩)
    (c_wrd : PySem.W.codeIn K cd_wrd "is_word" = true)
    (k_wrd : PySem.W.keepIn K (.ref f_wrd) = true)
    (a_apt : PySem.W.nsIn K mainGlobals "_are_partners" = some (some (.ref f_apt)))
    (l_apt : K.lookup f_apt = some ⟨oc_apt, od_apt, .func (PySem.W.fnOf "_are_partners" "_are_partners" (defArgs sArePart) (defBody sArePart) (defScope sArePart) .none kV_apt dc_apt pm_apt an_apt cd_apt ct_apt), sl_apt⟩)
    (c_apt : PySem.W.codeIn K cd_apt "_are_partners" = true)
    (k_apt : PySem.W.keepIn K (.ref f_apt) = true)
    (a_aen : PySem.W.nsIn K mainGlobals "_are_ends" = some (some (.ref f_aen)))
    (l_aen : K.lookup f_aen = some ⟨oc_aen, od_aen, .func (PySem.W.fnOf "_are_ends" "_are_ends" (defArgs sAreEnds) (defBody sAreEnds) (defScope sAreEnds) .none kV_aen dc_aen pm_aen an_aen cd_aen ct_aen), sl_aen⟩)
    (c_aen : PySem.W.codeIn K cd_aen "_are_ends" = true)
    (k_aen : PySem.W.keepIn K (.ref f_aen) = true)
    (a_abk : PySem.W.nsIn K mainGlobals "_are_blocks" = some (some (.ref f_abk)))
    (l_abk : K.lookup f_abk = some ⟨oc_abk, od_abk, .func (PySem.W.fnOf "_are_blocks" "_are_blocks" (defArgs sAreBlocks) (defBody sAreBlocks) (defScope sAreBlocks) .none kV_abk dc_abk pm_abk an_abk cd_abk ct_abk), sl_abk⟩)
    (c_abk : PySem.W.codeIn K cd_abk "_are_blocks" = true)
    (k_abk : PySem.W.keepIn K (.ref f_abk) = true)
    (a_chk : PySem.W.nsIn K mainGlobals "check_sheet" = some (some (.ref f_chk)))
    (l_chk : K.lookup f_chk = some ⟨oc_chk, od_chk, .func (PySem.W.fnOf "check_sheet" "check_sheet" (defArgs sCheck) (defBody sCheck) (defScope sCheck) .none kV_chk dc_chk pm_chk an_chk cd_chk ct_chk), sl_chk⟩)
    (c_chk : PySem.W.codeIn K cd_chk "check_sheet" = true)
    (k_chk : PySem.W.keepIn K (.ref f_chk) = true)
    (a_plc : PySem.W.nsIn K mainGlobals "_is_place" = some (some (.ref f_plc)))
    (l_plc : K.lookup f_plc = some ⟨oc_plc, od_plc, .func (PySem.W.fnOf "_is_place" "_is_place" (defArgs sPlace) (defBody sPlace) (defScope sPlace) .none kV_plc dc_plc pm_plc an_plc cd_plc ct_plc), sl_plc⟩)
    (c_plc : PySem.W.codeIn K cd_plc "_is_place" = true)
    (k_plc : PySem.W.keepIn K (.ref f_plc) = true)
    (a_lnk : PySem.W.nsIn K mainGlobals "_is_link" = some (some (.ref f_lnk)))
    (l_lnk : K.lookup f_lnk = some ⟨oc_lnk, od_lnk, .func (PySem.W.fnOf "_is_link" "_is_link" (defArgs sLink) (defBody sLink) (defScope sLink) .none kV_lnk dc_lnk pm_lnk an_lnk cd_lnk ct_lnk), sl_lnk⟩)
    (c_lnk : PySem.W.codeIn K cd_lnk "_is_link" = true)
    (k_lnk : PySem.W.keepIn K (.ref f_lnk) = true)
    (a_lks : PySem.W.nsIn K mainGlobals "are_links" = some (some (.ref f_lks)))
    (l_lks : K.lookup f_lks = some ⟨oc_lks, od_lks, .func (PySem.W.fnOf "are_links" "are_links" (defArgs sLinks) (defBody sLinks) (defScope sLinks) .none kV_lks dc_lks pm_lks an_lks cd_lks ct_lks), sl_lks⟩)
    (c_lks : PySem.W.codeIn K cd_lks "are_links" = true)
    (k_lks : PySem.W.keepIn K (.ref f_lks) = true)
    (a_fit : PySem.W.nsIn K mainGlobals "do_fit" = some (some (.ref f_fit)))
    (l_fit : K.lookup f_fit = some ⟨oc_fit, od_fit, .func (PySem.W.fnOf "do_fit" "do_fit" (defArgs sFit) (defBody sFit) (defScope sFit) .none kV_fit dc_fit pm_fit an_fit cd_fit ct_fit), sl_fit⟩)
    (c_fit : PySem.W.codeIn K cd_fit "do_fit" = true)
    (k_fit : PySem.W.keepIn K (.ref f_fit) = true)
    (a_fac : PySem.W.nsIn K mainGlobals "facing_ends" = some (some (.ref f_fac)))
    (l_fac : K.lookup f_fac = some ⟨oc_fac, od_fac, .func (PySem.W.fnOf "facing_ends" "facing_ends" (defArgs sFacing) (defBody sFacing) (defScope sFacing) .none kV_fac dc_fac pm_fac an_fac cd_fac ct_fac), sl_fac⟩)
    (c_fac : PySem.W.codeIn K cd_fac "facing_ends" = true)
    (k_fac : PySem.W.keepIn K (.ref f_fac) = true)
    (a_pts : PySem.W.nsIn K mainGlobals "parts_of" = some (some (.ref f_pts)))
    (l_pts : K.lookup f_pts = some ⟨oc_pts, od_pts, .func (PySem.W.fnOf "parts_of" "parts_of" (defArgs sParts) (defBody sParts) (defScope sParts) .none kV_pts dc_pts pm_pts an_pts cd_pts ct_pts), sl_pts⟩)
    (c_pts : PySem.W.codeIn K cd_pts "parts_of" = true)
    (k_pts : PySem.W.keepIn K (.ref f_pts) = true)
    (a_pfr : PySem.W.nsIn K mainGlobals "_part_from" = some (some (.ref f_pfr)))
    (l_pfr : K.lookup f_pfr = some ⟨oc_pfr, od_pfr, .func (PySem.W.fnOf "_part_from" "_part_from" (defArgs sPartFrom) (defBody sPartFrom) (defScope sPartFrom) .none kV_pfr dc_pfr pm_pfr an_pfr cd_pfr ct_pfr), sl_pfr⟩)
    (c_pfr : PySem.W.codeIn K cd_pfr "_part_from" = true)
    (k_pfr : PySem.W.keepIn K (.ref f_pfr) = true)
    (a_cop : PySem.W.nsIn K mainGlobals "_are_copies" = some (some (.ref f_cop)))
    (l_cop : K.lookup f_cop = some ⟨oc_cop, od_cop, .func (PySem.W.fnOf "_are_copies" "_are_copies" (defArgs sCopies) (defBody sCopies) (defScope sCopies) .none kV_cop dc_cop pm_cop an_cop cd_cop ct_cop), sl_cop⟩)
    (c_cop : PySem.W.codeIn K cd_cop "_are_copies" = true)
    (k_cop : PySem.W.keepIn K (.ref f_cop) = true)
    (a_lkd : PySem.W.nsIn K mainGlobals "_are_linked" = some (some (.ref f_lkd)))
    (l_lkd : K.lookup f_lkd = some ⟨oc_lkd, od_lkd, .func (PySem.W.fnOf "_are_linked" "_are_linked" (defArgs sLinked) (defBody sLinked) (defScope sLinked) .none kV_lkd dc_lkd pm_lkd an_lkd cd_lkd ct_lkd), sl_lkd⟩)
    (c_lkd : PySem.W.codeIn K cd_lkd "_are_linked" = true)
    (k_lkd : PySem.W.keepIn K (.ref f_lkd) = true)
    (a_ipo : PySem.W.nsIn K mainGlobals "is_piece_of" = some (some (.ref f_ipo)))
    (l_ipo : K.lookup f_ipo = some ⟨oc_ipo, od_ipo, .func (PySem.W.fnOf "is_piece_of" "is_piece_of" (defArgs sIsPc) (defBody sIsPc) (defScope sIsPc) .none kV_ipo dc_ipo pm_ipo an_ipo cd_ipo ct_ipo), sl_ipo⟩)
    (c_ipo : PySem.W.codeIn K cd_ipo "is_piece_of" = true)
    (k_ipo : PySem.W.keepIn K (.ref f_ipo) = true)
    (a_cpc : PySem.W.nsIn K mainGlobals "check_piece" = some (some (.ref f_cpc)))
    (l_cpc : K.lookup f_cpc = some ⟨oc_cpc, od_cpc, .func (PySem.W.fnOf "check_piece" "check_piece" (defArgs sChkPc) (defBody sChkPc) (defScope sChkPc) .none kV_cpc dc_cpc pm_cpc an_cpc cd_cpc ct_cpc), sl_cpc⟩)
    (c_cpc : PySem.W.codeIn K cd_cpc "check_piece" = true)
    (k_cpc : PySem.W.keepIn K (.ref f_cpc) = true)
    (a_fre : PySem.W.nsIn K mainGlobals "free_ends" = some (some (.ref f_fre)))
    (l_fre : K.lookup f_fre = some ⟨oc_fre, od_fre, .func (PySem.W.fnOf "free_ends" "free_ends" (defArgs sFree) (defBody sFree) (defScope sFree) .none kV_fre dc_fre pm_fre an_fre cd_fre ct_fre), sl_fre⟩)
    (c_fre : PySem.W.codeIn K cd_fre "free_ends" = true)
    (k_fre : PySem.W.keepIn K (.ref f_fre) = true)
    (a_rin : PySem.W.nsIn K mainGlobals "rings" = some (some (.ref f_rin)))
    (l_rin : K.lookup f_rin = some ⟨oc_rin, od_rin, .func (PySem.W.fnOf "rings" "rings" (defArgs sRings) (defBody sRings) (defScope sRings) .none kV_rin dc_rin pm_rin an_rin cd_rin ct_rin), sl_rin⟩)
    (c_rin : PySem.W.codeIn K cd_rin "rings" = true)
    (k_rin : PySem.W.keepIn K (.ref f_rin) = true)
    (a_amo : PySem.W.nsIn K mainGlobals "amounts_of" = some (some (.ref f_amo)))
    (l_amo : K.lookup f_amo = some ⟨oc_amo, od_amo, .func (PySem.W.fnOf "amounts_of" "amounts_of" (defArgs sAmts) (defBody sAmts) (defScope sAmts) .none kV_amo dc_amo pm_amo an_amo cd_amo ct_amo), sl_amo⟩)
    (c_amo : PySem.W.codeIn K cd_amo "amounts_of" = true)
    (k_amo : PySem.W.keepIn K (.ref f_amo) = true)
    (a_cel : PySem.W.nsIn K mainGlobals "_law_cell_at" = some (some (.ref f_cel)))
    (l_cel : K.lookup f_cel = some ⟨oc_cel, od_cel, .func (PySem.W.fnOf "_law_cell_at" "_law_cell_at" (defArgs sCell) (defBody sCell) (defScope sCell) .none kV_cel dc_cel pm_cel an_cel cd_cel ct_cel), sl_cel⟩)
    (c_cel : PySem.W.codeIn K cd_cel "_law_cell_at" = true)
    (k_cel : PySem.W.keepIn K (.ref f_cel) = true)
    (a_drw : PySem.W.nsIn K mainGlobals "_law_draw" = some (some (.ref f_drw)))
    (l_drw : K.lookup f_drw = some ⟨oc_drw, od_drw, .func (PySem.W.fnOf "_law_draw" "_law_draw" (defArgs sDraw) (defBody sDraw) (defScope sDraw) .none kV_drw dc_drw pm_drw an_drw cd_drw ct_drw), sl_drw⟩)
    (c_drw : PySem.W.codeIn K cd_drw "_law_draw" = true)
    (k_drw : PySem.W.keepIn K (.ref f_drw) = true)
    (a_num : PySem.W.nsIn K mainGlobals "_law_number" = some (some (.ref f_num)))
    (l_num : K.lookup f_num = some ⟨oc_num, od_num, .func (PySem.W.fnOf "_law_number" "_law_number" (defArgs sNumber) (defBody sNumber) (defScope sNumber) .none kV_num dc_num pm_num an_num cd_num ct_num), sl_num⟩)
    (c_num : PySem.W.codeIn K cd_num "_law_number" = true)
    (k_num : PySem.W.keepIn K (.ref f_num) = true)
    (a_nxt : PySem.W.nsIn K mainGlobals "_law_next" = some (some (.ref f_nxt)))
    (l_nxt : K.lookup f_nxt = some ⟨oc_nxt, od_nxt, .func (PySem.W.fnOf "_law_next" "_law_next" (defArgs sNext) (defBody sNext) (defScope sNext) .none kV_nxt dc_nxt pm_nxt an_nxt cd_nxt ct_nxt), sl_nxt⟩)
    (c_nxt : PySem.W.codeIn K cd_nxt "_law_next" = true)
    (k_nxt : PySem.W.keepIn K (.ref f_nxt) = true)
    (a_pik : PySem.W.nsIn K mainGlobals "_law_pick" = some (some (.ref f_pik)))
    (l_pik : K.lookup f_pik = some ⟨oc_pik, od_pik, .func (PySem.W.fnOf "_law_pick" "_law_pick" (defArgs sPick) (defBody sPick) (defScope sPick) .none kV_pik dc_pik pm_pik an_pik cd_pik ct_pik), sl_pik⟩)
    (c_pik : PySem.W.codeIn K cd_pik "_law_pick" = true)
    (k_pik : PySem.W.keepIn K (.ref f_pik) = true)
    (a_lwd : PySem.W.nsIn K mainGlobals "_law_word" = some (some (.ref f_lwd)))
    (l_lwd : K.lookup f_lwd = some ⟨oc_lwd, od_lwd, .func (PySem.W.fnOf "_law_word" "_law_word" (defArgs sWord) (defBody sWord) (defScope sWord) .none kV_lwd dc_lwd pm_lwd an_lwd cd_lwd ct_lwd), sl_lwd⟩)
    (c_lwd : PySem.W.codeIn K cd_lwd "_law_word" = true)
    (k_lwd : PySem.W.keepIn K (.ref f_lwd) = true)
    (a_voc : PySem.W.nsIn K mainGlobals "_law_vocab" = some (some (.ref f_voc)))
    (l_voc : K.lookup f_voc = some ⟨oc_voc, od_voc, .func (PySem.W.fnOf "_law_vocab" "_law_vocab" (defArgs sVocab) (defBody sVocab) (defScope sVocab) .none kV_voc dc_voc pm_voc an_voc cd_voc ct_voc), sl_voc⟩)
    (c_voc : PySem.W.codeIn K cd_voc "_law_vocab" = true)
    (k_voc : PySem.W.keepIn K (.ref f_voc) = true)
    (a_par : PySem.W.nsIn K mainGlobals "_law_partners" = some (some (.ref f_par)))
    (l_par : K.lookup f_par = some ⟨oc_par, od_par, .func (PySem.W.fnOf "_law_partners" "_law_partners" (defArgs sPartners) (defBody sPartners) (defScope sPartners) .none kV_par dc_par pm_par an_par cd_par ct_par), sl_par⟩)
    (c_par : PySem.W.codeIn K cd_par "_law_partners" = true)
    (k_par : PySem.W.keepIn K (.ref f_par) = true)
    (a_blo : PySem.W.nsIn K mainGlobals "_law_blocks" = some (some (.ref f_blo)))
    (l_blo : K.lookup f_blo = some ⟨oc_blo, od_blo, .func (PySem.W.fnOf "_law_blocks" "_law_blocks" (defArgs sBlocks) (defBody sBlocks) (defScope sBlocks) .none kV_blo dc_blo pm_blo an_blo cd_blo ct_blo), sl_blo⟩)
    (c_blo : PySem.W.codeIn K cd_blo "_law_blocks" = true)
    (k_blo : PySem.W.keepIn K (.ref f_blo) = true)
    (a_sht : PySem.W.nsIn K mainGlobals "_law_sheet" = some (some (.ref f_sht)))
    (l_sht : K.lookup f_sht = some ⟨oc_sht, od_sht, .func (PySem.W.fnOf "_law_sheet" "_law_sheet" (defArgs sSheet) (defBody sSheet) (defScope sSheet) .none kV_sht dc_sht pm_sht an_sht cd_sht ct_sht), sl_sht⟩)
    (c_sht : PySem.W.codeIn K cd_sht "_law_sheet" = true)
    (k_sht : PySem.W.keepIn K (.ref f_sht) = true)
    (a_len : PySem.W.nsIn K mainGlobals "_law_ends" = some (some (.ref f_len)))
    (l_len : K.lookup f_len = some ⟨oc_len, od_len, .func (PySem.W.fnOf "_law_ends" "_law_ends" (defArgs sLEnds) (defBody sLEnds) (defScope sLEnds) .none kV_len dc_len pm_len an_len cd_len ct_len), sl_len⟩)
    (c_len : PySem.W.codeIn K cd_len "_law_ends" = true)
    (k_len : PySem.W.keepIn K (.ref f_len) = true)
    (a_llk : PySem.W.nsIn K mainGlobals "_law_link" = some (some (.ref f_llk)))
    (l_llk : K.lookup f_llk = some ⟨oc_llk, od_llk, .func (PySem.W.fnOf "_law_link" "_law_link" (defArgs sLLink) (defBody sLLink) (defScope sLLink) .none kV_llk dc_llk pm_llk an_llk cd_llk ct_llk), sl_llk⟩)
    (c_llk : PySem.W.codeIn K cd_llk "_law_link" = true)
    (k_llk : PySem.W.keepIn K (.ref f_llk) = true)
    (a_lfr : PySem.W.nsIn K mainGlobals "_law_free" = some (some (.ref f_lfr)))
    (l_lfr : K.lookup f_lfr = some ⟨oc_lfr, od_lfr, .func (PySem.W.fnOf "_law_free" "_law_free" (defArgs sLFree) (defBody sLFree) (defScope sLFree) .none kV_lfr dc_lfr pm_lfr an_lfr cd_lfr ct_lfr), sl_lfr⟩)
    (c_lfr : PySem.W.codeIn K cd_lfr "_law_free" = true)
    (k_lfr : PySem.W.keepIn K (.ref f_lfr) = true)
    (a_lhu : PySem.W.nsIn K mainGlobals "_law_hung" = some (some (.ref f_lhu)))
    (l_lhu : K.lookup f_lhu = some ⟨oc_lhu, od_lhu, .func (PySem.W.fnOf "_law_hung" "_law_hung" (defArgs sLHung) (defBody sLHung) (defScope sLHung) .none kV_lhu dc_lhu pm_lhu an_lhu cd_lhu ct_lhu), sl_lhu⟩)
    (c_lhu : PySem.W.codeIn K cd_lhu "_law_hung" = true)
    (k_lhu : PySem.W.keepIn K (.ref f_lhu) = true)
    (a_lpc : PySem.W.nsIn K mainGlobals "_law_piece" = some (some (.ref f_lpc)))
    (l_lpc : K.lookup f_lpc = some ⟨oc_lpc, od_lpc, .func (PySem.W.fnOf "_law_piece" "_law_piece" (defArgs sLPiece) (defBody sLPiece) (defScope sLPiece) .none kV_lpc dc_lpc pm_lpc an_lpc cd_lpc ct_lpc), sl_lpc⟩)
    (c_lpc : PySem.W.codeIn K cd_lpc "_law_piece" = true)
    (k_lpc : PySem.W.keepIn K (.ref f_lpc) = true)
    (a_err : PySem.W.nsIn K mainGlobals "_law_error" = some (some (.ref f_err)))
    (l_err : K.lookup f_err = some ⟨oc_err, od_err, .func (PySem.W.fnOf "_law_error" "_law_error" (defArgs sErr) (defBody sErr) (defScope sErr) .none kV_err dc_err pm_err an_err cd_err ct_err), sl_err⟩)
    (c_err : PySem.W.codeIn K cd_err "_law_error" = true)
    (k_err : PySem.W.keepIn K (.ref f_err) = true)
    (a_spo : PySem.W.nsIn K mainGlobals "_law_spoilt" = some (some (.ref f_spo)))
    (l_spo : K.lookup f_spo = some ⟨oc_spo, od_spo, .func (PySem.W.fnOf "_law_spoilt" "_law_spoilt" (defArgs sSpoilt) (defBody sSpoilt) (defScope sSpoilt) .none kV_spo dc_spo pm_spo an_spo cd_spo ct_spo), sl_spo⟩)
    (c_spo : PySem.W.codeIn K cd_spo "_law_spoilt" = true)
    (k_spo : PySem.W.keepIn K (.ref f_spo) = true)
    (a_law : PySem.W.nsIn K mainGlobals "law" = some (some (.ref f_law)))
    (l_law : K.lookup f_law = some ⟨oc_law, od_law, .func (PySem.W.fnOf "law" "law" (defArgs sLaw) (defBody sLaw) (defScope sLaw) .none kV_law dc_law pm_law an_law (.ref cc) ct_law), sl_law⟩)
    (c_law : PySem.W.codeIn K (.ref cc) "law" = true)
    (k_law : PySem.W.keepIn K (.ref f_law) = true)
    (aC : PySem.W.nsIn K mainGlobals "Sheet" = some (some (.ref C)))
    (aQ : PySem.W.nsIn K mainGlobals "Piece" = some (some (.ref CQ)))
    (a_ini : PySem.W.findIn K (.ref C) "__init__" = some (some (.ref f_ini)))
    (i_ini : PySem.W.isFn K (.ref f_ini) = true)
    (l_ini : K.lookup f_ini = some ⟨oc_ini, od_ini, .func (PySem.W.fnOf "__init__" "Sheet.__init__" (defArgs sInit) (defBody sInit) (defScope sInit) .none kV_ini dc_ini pm_ini an_ini cd_ini ct_ini), sl_ini⟩)
    (c_ini : PySem.W.codeIn K cd_ini "Sheet.__init__" = true)
    (k_ini : PySem.W.keepIn K (.ref f_ini) = true)
    (a_ptr : PySem.W.findIn K (.ref C) "partner" = some (some (.ref f_ptr)))
    (i_ptr : PySem.W.isFn K (.ref f_ptr) = true)
    (l_ptr : K.lookup f_ptr = some ⟨oc_ptr, od_ptr, .func (PySem.W.fnOf "partner" "Sheet.partner" (defArgs sPartner) (defBody sPartner) (defScope sPartner) .none kV_ptr dc_ptr pm_ptr an_ptr cd_ptr ct_ptr), sl_ptr⟩)
    (c_ptr : PySem.W.codeIn K cd_ptr "Sheet.partner" = true)
    (k_ptr : PySem.W.keepIn K (.ref f_ptr) = true)
    (a_end : PySem.W.findIn K (.ref C) "ends" = some (some (.ref f_end)))
    (i_end : PySem.W.isFn K (.ref f_end) = true)
    (l_end : K.lookup f_end = some ⟨oc_end, od_end, .func (PySem.W.fnOf "ends" "Sheet.ends" (defArgs sEnds) (defBody sEnds) (defScope sEnds) .none kV_end dc_end pm_end an_end cd_end ct_end), sl_end⟩)
    (c_end : PySem.W.codeIn K cd_end "Sheet.ends" = true)
    (k_end : PySem.W.keepIn K (.ref f_end) = true)
    (a_con : PySem.W.findIn K (.ref C) "__contains__" = some (some (.ref f_con)))
    (i_con : PySem.W.isFn K (.ref f_con) = true)
    (l_con : K.lookup f_con = some ⟨oc_con, od_con, .func (PySem.W.fnOf "__contains__" "Sheet.__contains__" (defArgs sCont) (defBody sCont) (defScope sCont) .none kV_con dc_con pm_con an_con cd_con ct_con), sl_con⟩)
    (c_con : PySem.W.codeIn K cd_con "Sheet.__contains__" = true)
    (k_con : PySem.W.keepIn K (.ref f_con) = true)
    (a_pin : PySem.W.findIn K (.ref CQ) "__init__" = some (some (.ref f_pin)))
    (i_pin : PySem.W.isFn K (.ref f_pin) = true)
    (l_pin : K.lookup f_pin = some ⟨oc_pin, od_pin, .func (PySem.W.fnOf "__init__" "Piece.__init__" (defArgs sPInit) (defBody sPInit) (defScope sPInit) .none kV_pin dc_pin pm_pin an_pin cd_pin ct_pin), sl_pin⟩)
    (c_pin : PySem.W.codeIn K cd_pin "Piece.__init__" = true)
    (k_pin : PySem.W.keepIn K (.ref f_pin) = true)
    (a_pln : PySem.W.findIn K (.ref CQ) "__len__" = some (some (.ref f_pln)))
    (i_pln : PySem.W.isFn K (.ref f_pln) = true)
    (l_pln : K.lookup f_pln = some ⟨oc_pln, od_pln, .func (PySem.W.fnOf "__len__" "Piece.__len__" (defArgs sPLen) (defBody sPLen) (defScope sPLen) .none kV_pln dc_pln pm_pln an_pln cd_pln ct_pln), sl_pln⟩)
    (c_pln : PySem.W.codeIn K cd_pln "Piece.__len__" = true)
    (k_pln : PySem.W.keepIn K (.ref f_pln) = true)
    (a_peq : PySem.W.findIn K (.ref CQ) "__eq__" = some (some (.ref f_peq)))
    (i_peq : PySem.W.isFn K (.ref f_peq) = true)
    (l_peq : K.lookup f_peq = some ⟨oc_peq, od_peq, .func (PySem.W.fnOf "__eq__" "Piece.__eq__" (defArgs sPEq) (defBody sPEq) (defScope sPEq) .none kV_peq dc_peq pm_peq an_peq cd_peq ct_peq), sl_peq⟩)
    (c_peq : PySem.W.codeIn K cd_peq "Piece.__eq__" = true)
    (k_peq : PySem.W.keepIn K (.ref f_peq) = true)
    (pgC : PySem.W.plainGet K C Str.empty = true)
    (hdC : PySem.W.hasDictIn K C = true)
    (poC : PySem.W.plainOver K C = true)
    (saC : PySem.W.findIn K (.ref C) "__setattr__" = some (some (.builtin "object.__setattr__")))
    (mkC : PySem.W.makesIn K C = true)
    (kcC : PySem.W.keepIn K (.ref C) = true)
    (neC : PySem.W.findIn K (.ref C) "__ne__" = some (some (.builtin "object.__ne__")))
    (haC : PySem.W.findIn K (.ref C) "__class__" = some (some (.builtin "object.__class__")))
    (hmC : PySem.W.mroIn K C (.type "object") = some true)
    (qcC : PySem.W.isClsIn K C = true)
    (tyC : PySem.W.typeIn K (.ref C) = some (.type "type"))
    (uC_str : PySem.W.subIn K (.type "str") (.ref C) = some false)
    (uC_int : PySem.W.subIn K (.type "int") (.ref C) = some false)
    (uC_bool : PySem.W.subIn K (.type "bool") (.ref C) = some false)
    (uC_NoneType : PySem.W.subIn K (.type "NoneType") (.ref C) = some false)
    (uC_tuple : PySem.W.subIn K (.type "tuple") (.ref C) = some false)
    (uC_list : PySem.W.subIn K (.type "list") (.ref C) = some false)
    (uC_dict : PySem.W.subIn K (.type "dict") (.ref C) = some false)
    (pgQ : PySem.W.plainGet K CQ Str.empty = true)
    (hdQ : PySem.W.hasDictIn K CQ = true)
    (poQ : PySem.W.plainOver K CQ = true)
    (saQ : PySem.W.findIn K (.ref CQ) "__setattr__" = some (some (.builtin "object.__setattr__")))
    (mkQ : PySem.W.makesIn K CQ = true)
    (kcQ : PySem.W.keepIn K (.ref CQ) = true)
    (neQ : PySem.W.findIn K (.ref CQ) "__ne__" = some (some (.builtin "object.__ne__")))
    (haQ : PySem.W.findIn K (.ref CQ) "__class__" = some (some (.builtin "object.__class__")))
    (hmQ : PySem.W.mroIn K CQ (.type "object") = some true)
    (qcQ : PySem.W.isClsIn K CQ = true)
    (tyQ : PySem.W.typeIn K (.ref CQ) = some (.type "type"))
    (uQ_str : PySem.W.subIn K (.type "str") (.ref CQ) = some false)
    (uQ_int : PySem.W.subIn K (.type "int") (.ref CQ) = some false)
    (uQ_bool : PySem.W.subIn K (.type "bool") (.ref CQ) = some false)
    (uQ_NoneType : PySem.W.subIn K (.type "NoneType") (.ref CQ) = some false)
    (uQ_tuple : PySem.W.subIn K (.type "tuple") (.ref CQ) = some false)
    (uQ_list : PySem.W.subIn K (.type "list") (.ref CQ) = some false)
    (uQ_dict : PySem.W.subIn K (.type "dict") (.ref CQ) = some false)
    (nP : PySem.W.findIn K (.ref C) "_partners" = some none)
    (nB : PySem.W.findIn K (.ref C) "_blocks" = some none)
    (nN : PySem.W.findIn K (.ref C) "_names" = some none)
    (nQB : PySem.W.findIn K (.ref CQ) "blocks" = some none)
    (nQL : PySem.W.findIn K (.ref CQ) "links" = some none)
    (hnC : PySem.W.specialIn K (.builtin "object.__class__") "__get__" = some (some (.builtin "getset_descriptor.__get__")))
    (htC : PySem.W.takesIn K (.builtin "object.__class__") = some true)
    (gCB : PySem.W.nsIn K mainGlobals "BadSheet" = some (some (.ref CB)))
    (xCB : PySem.W.excIn K CB [.type "ValueError", .type "Exception", .type "BaseException", .type "object"] "ValueError.__new__" = true)
    (kCB : PySem.W.keepIn K (.ref CB) = true)
    (bCB : PySem.W.subIn K (.ref CB) (.type "BaseException") = some true)
    (tCB : PySem.W.typeIn K (.ref CB) = some (.type "type"))
    (gCN : PySem.W.nsIn K mainGlobals "BadBlock" = some (some (.ref CN)))
    (xCN : PySem.W.excIn K CN [.type "ValueError", .type "Exception", .type "BaseException", .type "object"] "ValueError.__new__" = true)
    (kCN : PySem.W.keepIn K (.ref CN) = true)
    (bCN : PySem.W.subIn K (.ref CN) (.type "BaseException") = some true)
    (tCN : PySem.W.typeIn K (.ref CN) = some (.type "type"))
    (gCK : PySem.W.nsIn K mainGlobals "BadKind" = some (some (.ref CK)))
    (xCK : PySem.W.excIn K CK [.type "ValueError", .type "Exception", .type "BaseException", .type "object"] "ValueError.__new__" = true)
    (kCK : PySem.W.keepIn K (.ref CK) = true)
    (bCK : PySem.W.subIn K (.ref CK) (.type "BaseException") = some true)
    (tCK : PySem.W.typeIn K (.ref CK) = some (.type "type"))
    (gCE : PySem.W.nsIn K mainGlobals "BadPiece" = some (some (.ref CE)))
    (xCE : PySem.W.excIn K CE [.type "ValueError", .type "Exception", .type "BaseException", .type "object"] "ValueError.__new__" = true)
    (kCE : PySem.W.keepIn K (.ref CE) = true)
    (bCE : PySem.W.subIn K (.ref CE) (.type "BaseException") = some true)
    (tCE : PySem.W.typeIn K (.ref CE) = some (.type "type"))
    (qCB : PySem.W.isClsIn K CB = true)
    (qCE : PySem.W.isClsIn K CE = true)
    (s_ss : PySem.W.subIn K (.ref CB) (.ref CB) = some true)
    (s_ps : PySem.W.subIn K (.ref CE) (.ref CB) = some false)
    (s_pp : PySem.W.subIn K (.ref CE) (.ref CE) = some true)
    (z_len : PySem.W.nsIn K mainGlobals "len" = some none)
    (z_int : PySem.W.nsIn K mainGlobals "int" = some none)
    (z_range : PySem.W.nsIn K mainGlobals "range" = some none)
    (z_list : PySem.W.nsIn K mainGlobals "list" = some none)
    (z_tuple : PySem.W.nsIn K mainGlobals "tuple" = some none)
    (z_isinstance : PySem.W.nsIn K mainGlobals "isinstance" = some none)
    (z_str : PySem.W.nsIn K mainGlobals "str" = some none)
    (z_all : PySem.W.nsIn K mainGlobals "all" = some none)
    (z_dict : PySem.W.nsIn K mainGlobals "dict" = some none)
    (z_sorted : PySem.W.nsIn K mainGlobals "sorted" = some none)
    (z_min : PySem.W.nsIn K mainGlobals "min" = some none)
    (z_iter : PySem.W.nsIn K mainGlobals "iter" = some none)
    (z_bool : PySem.W.nsIn K mainGlobals "bool" = some none)
    (z_enumerate : PySem.W.nsIn K mainGlobals "enumerate" = some none)
    (lw : PySem.W.nsIn K mainGlobals "LONGEST_WORD" = some (some (.int 8 t8)))
    (me : PySem.W.nsIn K mainGlobals "MOST_ENDS" = some (some (.int 4 t4)))
    (mcp : PySem.W.nsIn K mainGlobals "MOST_COPIES" = some (some (.int 200 t200)))
    (lkc : K.lookup cc = some ⟨ec, dcc, .fields vsc, slc⟩)
    (h11 : vsc[11]? = some (.ref Pt))
    (nPt : K.lookup Pt = none)
    (hHd : PySem.W.codeHdIn K cc Pt = true) :
    LamX.LawAtS l w K CX0 11 63 "script" mg fa h := by
  have e := hfa.symm.trans (PySem.W.mg_of X G a_law)
  cases e
  have F_iin := fun_mk (st := sIsInt) l_iin c_iin k_iin
  have d_iin : D K mg "is_int" sIsInt ["thing"] f_iin _ := ⟨F_iin, PySem.W.mg_of X G a_iin, F_iin.binds fun _ _ _ _ _ _ us hl => match us, hl with | [_], _ => rfl⟩
  have F_let := fun_mk (st := sLetter) l_let c_let k_let
  have d_let : D K mg "is_letter" sLetter ["sign"] f_let _ := ⟨F_let, PySem.W.mg_of X G a_let, F_let.binds fun _ _ _ _ _ _ us hl => match us, hl with | [_], _ => rfl⟩
  have F_wrd := fun_mk (st := sIsWord) l_wrd c_wrd k_wrd
  have d_wrd : D K mg "is_word" sIsWord ["thing"] f_wrd _ := ⟨F_wrd, PySem.W.mg_of X G a_wrd, F_wrd.binds fun _ _ _ _ _ _ us hl => match us, hl with | [_], _ => rfl⟩
  have F_apt := fun_mk (st := sArePart) l_apt c_apt k_apt
  have d_apt : D K mg "_are_partners" sArePart ["partners"] f_apt _ := ⟨F_apt, PySem.W.mg_of X G a_apt, F_apt.binds fun _ _ _ _ _ _ us hl => match us, hl with | [_], _ => rfl⟩
  have F_aen := fun_mk (st := sAreEnds) l_aen c_aen k_aen
  have d_aen : D K mg "_are_ends" sAreEnds ["partners", "ends"] f_aen _ := ⟨F_aen, PySem.W.mg_of X G a_aen, F_aen.binds fun _ _ _ _ _ _ us hl => match us, hl with | [_, _], _ => rfl⟩
  have F_abk := fun_mk (st := sAreBlocks) l_abk c_abk k_abk
  have d_abk : D K mg "_are_blocks" sAreBlocks ["partners", "blocks"] f_abk _ := ⟨F_abk, PySem.W.mg_of X G a_abk, F_abk.binds fun _ _ _ _ _ _ us hl => match us, hl with | [_, _], _ => rfl⟩
  have F_chk := fun_mk (st := sCheck) l_chk c_chk k_chk
  have d_chk : D K mg "check_sheet" sCheck ["sheet"] f_chk _ := ⟨F_chk, PySem.W.mg_of X G a_chk, F_chk.binds fun _ _ _ _ _ _ us hl => match us, hl with | [_], _ => rfl⟩
  have F_plc := fun_mk (st := sPlace) l_plc c_plc k_plc
  have d_plc : D K mg "_is_place" sPlace ["thing", "many"] f_plc _ := ⟨F_plc, PySem.W.mg_of X G a_plc, F_plc.binds fun _ _ _ _ _ _ us hl => match us, hl with | [_, _], _ => rfl⟩
  have F_lnk := fun_mk (st := sLink) l_lnk c_lnk k_lnk
  have d_lnk : D K mg "_is_link" sLink ["thing", "many"] f_lnk _ := ⟨F_lnk, PySem.W.mg_of X G a_lnk, F_lnk.binds fun _ _ _ _ _ _ us hl => match us, hl with | [_, _], _ => rfl⟩
  have F_lks := fun_mk (st := sLinks) l_lks c_lks k_lks
  have d_lks : D K mg "are_links" sLinks ["links", "many"] f_lks _ := ⟨F_lks, PySem.W.mg_of X G a_lks, F_lks.binds fun _ _ _ _ _ _ us hl => match us, hl with | [_, _], _ => rfl⟩
  have F_fit := fun_mk (st := sFit) l_fit c_fit k_fit
  have d_fit : D K mg "do_fit" sFit ["sheet", "blocks", "links"] f_fit _ := ⟨F_fit, PySem.W.mg_of X G a_fit, F_fit.binds fun _ _ _ _ _ _ us hl => match us, hl with | [_, _, _], _ => rfl⟩
  have F_fac := fun_mk (st := sFacing) l_fac c_fac k_fac
  have d_fac : D K mg "facing_ends" sFacing ["links"] f_fac _ := ⟨F_fac, PySem.W.mg_of X G a_fac, F_fac.binds fun _ _ _ _ _ _ us hl => match us, hl with | [_], _ => rfl⟩
  have F_pts := fun_mk (st := sParts) l_pts c_pts k_pts
  have d_pts : D K mg "parts_of" sParts ["many", "links"] f_pts _ := ⟨F_pts, PySem.W.mg_of X G a_pts, F_pts.binds fun _ _ _ _ _ _ us hl => match us, hl with | [_, _], _ => rfl⟩
  have F_pfr := fun_mk (st := sPartFrom) l_pfr c_pfr k_pfr
  have d_pfr : D K mg "_part_from" sPartFrom ["first", "near", "seen"] f_pfr _ := ⟨F_pfr, PySem.W.mg_of X G a_pfr, F_pfr.binds fun _ _ _ _ _ _ us hl => match us, hl with | [_, _, _], _ => rfl⟩
  have F_cop := fun_mk (st := sCopies) l_cop c_cop k_cop
  have d_cop : D K mg "_are_copies" sCopies ["blocks"] f_cop _ := ⟨F_cop, PySem.W.mg_of X G a_cop, F_cop.binds fun _ _ _ _ _ _ us hl => match us, hl with | [_], _ => rfl⟩
  have F_lkd := fun_mk (st := sLinked) l_lkd c_lkd k_lkd
  have d_lkd : D K mg "_are_linked" sLinked ["blocks", "links"] f_lkd _ := ⟨F_lkd, PySem.W.mg_of X G a_lkd, F_lkd.binds fun _ _ _ _ _ _ us hl => match us, hl with | [_, _], _ => rfl⟩
  have F_ipo := fun_mk (st := sIsPc) l_ipo c_ipo k_ipo
  have d_ipo : D K mg "is_piece_of" sIsPc ["sheet", "piece"] f_ipo _ := ⟨F_ipo, PySem.W.mg_of X G a_ipo, F_ipo.binds fun _ _ _ _ _ _ us hl => match us, hl with | [_, _], _ => rfl⟩
  have F_cpc := fun_mk (st := sChkPc) l_cpc c_cpc k_cpc
  have d_cpc : D K mg "check_piece" sChkPc ["sheet", "piece"] f_cpc _ := ⟨F_cpc, PySem.W.mg_of X G a_cpc, F_cpc.binds fun _ _ _ _ _ _ us hl => match us, hl with | [_, _], _ => rfl⟩
  have F_fre := fun_mk (st := sFree) l_fre c_fre k_fre
  have d_fre : D K mg "free_ends" sFree ["sheet", "piece"] f_fre _ := ⟨F_fre, PySem.W.mg_of X G a_fre, F_fre.binds fun _ _ _ _ _ _ us hl => match us, hl with | [_, _], _ => rfl⟩
  have F_rin := fun_mk (st := sRings) l_rin c_rin k_rin
  have d_rin : D K mg "rings" sRings ["sheet", "piece"] f_rin _ := ⟨F_rin, PySem.W.mg_of X G a_rin, F_rin.binds fun _ _ _ _ _ _ us hl => match us, hl with | [_, _], _ => rfl⟩
  have F_amo := fun_mk (st := sAmts) l_amo c_amo k_amo
  have d_amo : D K mg "amounts_of" sAmts ["sheet", "piece"] f_amo _ := ⟨F_amo, PySem.W.mg_of X G a_amo, F_amo.binds fun _ _ _ _ _ _ us hl => match us, hl with | [_, _], _ => rfl⟩
  have F_cel := fun_mk (st := sCell) l_cel c_cel k_cel
  have d_cel : D K mg "_law_cell_at" sCell ["script", "k"] f_cel _ := ⟨F_cel, PySem.W.mg_of X G a_cel, F_cel.binds fun _ _ _ _ _ _ us hl => match us, hl with | [_, _], _ => rfl⟩
  have F_drw := fun_mk (st := sDraw) l_drw c_drw k_drw
  have d_drw : D K mg "_law_draw" sDraw ["cell", "k", "bound"] f_drw _ := ⟨F_drw, PySem.W.mg_of X G a_drw, F_drw.binds fun _ _ _ _ _ _ us hl => match us, hl with | [_, _, _], _ => rfl⟩
  have F_num := fun_mk (st := sNumber) l_num c_num k_num
  have d_num : D K mg "_law_number" sNumber ["cell", "k", "bound"] f_num _ := ⟨F_num, PySem.W.mg_of X G a_num, F_num.binds fun _ _ _ _ _ _ us hl => match us, hl with | [_, _, _], _ => rfl⟩
  have F_nxt := fun_mk (st := sNext) l_nxt c_nxt k_nxt
  have d_nxt : D K mg "_law_next" sNext ["draw", "bound"] f_nxt _ := ⟨F_nxt, PySem.W.mg_of X G a_nxt, F_nxt.binds fun _ _ _ _ _ _ us hl => match us, hl with | [_, _], _ => rfl⟩
  have F_pik := fun_mk (st := sPick) l_pik c_pik k_pik
  have d_pik : D K mg "_law_pick" sPick ["draw", "things"] f_pik _ := ⟨F_pik, PySem.W.mg_of X G a_pik, F_pik.binds fun _ _ _ _ _ _ us hl => match us, hl with | [_, _], _ => rfl⟩
  have F_lwd := fun_mk (st := sWord) l_lwd c_lwd k_lwd
  have d_lwd : D K mg "_law_word" sWord ["draw"] f_lwd _ := ⟨F_lwd, PySem.W.mg_of X G a_lwd, F_lwd.binds fun _ _ _ _ _ _ us hl => match us, hl with | [_], _ => rfl⟩
  have F_voc := fun_mk (st := sVocab) l_voc c_voc k_voc
  have d_voc : D K mg "_law_vocab" sVocab ["draw", "many"] f_voc _ := ⟨F_voc, PySem.W.mg_of X G a_voc, F_voc.binds fun _ _ _ _ _ _ us hl => match us, hl with | [_, _], _ => rfl⟩
  have F_par := fun_mk (st := sPartners) l_par c_par k_par
  have d_par : D K mg "_law_partners" sPartners ["draw", "many"] f_par _ := ⟨F_par, PySem.W.mg_of X G a_par, F_par.binds fun _ _ _ _ _ _ us hl => match us, hl with | [_, _], _ => rfl⟩
  have F_blo := fun_mk (st := sBlocks) l_blo c_blo k_blo
  have d_blo : D K mg "_law_blocks" sBlocks ["draw", "partners", "many", "top"] f_blo _ := ⟨F_blo, PySem.W.mg_of X G a_blo, F_blo.binds fun _ _ _ _ _ _ us hl => match us, hl with | [_, _, _, _], _ => rfl⟩
  have F_sht := fun_mk (st := sSheet) l_sht c_sht k_sht
  have d_sht : D K mg "_law_sheet" sSheet ["draw", "joints", "many", "top"] f_sht _ := ⟨F_sht, PySem.W.mg_of X G a_sht, F_sht.binds fun _ _ _ _ _ _ us hl => match us, hl with | [_, _, _, _], _ => rfl⟩
  have F_len := fun_mk (st := sLEnds) l_len c_len k_len
  have d_len : D K mg "_law_ends" sLEnds ["sheet", "blocks"] f_len _ := ⟨F_len, PySem.W.mg_of X G a_len, F_len.binds fun _ _ _ _ _ _ us hl => match us, hl with | [_, _], _ => rfl⟩
  have F_llk := fun_mk (st := sLLink) l_llk c_llk k_llk
  have d_llk : D K mg "_law_link" sLLink ["one", "two"] f_llk _ := ⟨F_llk, PySem.W.mg_of X G a_llk, F_llk.binds fun _ _ _ _ _ _ us hl => match us, hl with | [_, _], _ => rfl⟩
  have F_lfr := fun_mk (st := sLFree) l_lfr c_lfr k_lfr
  have d_lfr : D K mg "_law_free" sLFree ["sheet", "blocks", "links"] f_lfr _ := ⟨F_lfr, PySem.W.mg_of X G a_lfr, F_lfr.binds fun _ _ _ _ _ _ us hl => match us, hl with | [_, _, _], _ => rfl⟩
  have F_lhu := fun_mk (st := sLHung) l_lhu c_lhu k_lhu
  have d_lhu : D K mg "_law_hung" sLHung ["sheet", "kind"] f_lhu _ := ⟨F_lhu, PySem.W.mg_of X G a_lhu, F_lhu.binds fun _ _ _ _ _ _ us hl => match us, hl with | [_, _], _ => rfl⟩
  have F_lpc := fun_mk (st := sLPiece) l_lpc c_lpc k_lpc
  have d_lpc : D K mg "_law_piece" sLPiece ["draw", "sheet", "top", "odds"] f_lpc _ := ⟨F_lpc, PySem.W.mg_of X G a_lpc, F_lpc.binds fun _ _ _ _ _ _ us hl => match us, hl with | [_, _, _, _], _ => rfl⟩
  have F_err := fun_mk (st := sErr) l_err c_err k_err
  have b_err := F_err.binds (ps := ["work"]) fun _ _ _ _ _ _ us hl => match us, hl with | [_], _ => rfl
  have F_spo := fun_mk (st := sSpoilt) l_spo c_spo k_spo
  have d_spo : D K mg "_law_spoilt" sSpoilt ["blocks", "links"] f_spo _ := ⟨F_spo, PySem.W.mg_of X G a_spo, F_spo.binds fun _ _ _ _ _ _ us hl => match us, hl with | [_, _], _ => rfl⟩
  have F_ini := fun_mk (st := sInit) l_ini c_ini k_ini
  have b_ini := F_ini.binds (ps := ["self", "partners", "blocks"]) fun _ _ _ _ _ _ us hl => match us, hl with | [_, _, _], _ => rfl
  have F_ptr := fun_mk (st := sPartner) l_ptr c_ptr k_ptr
  have b_ptr := F_ptr.binds (ps := ["self", "kind"]) fun _ _ _ _ _ _ us hl => match us, hl with | [_, _], _ => rfl
  have F_end := fun_mk (st := sEnds) l_end c_end k_end
  have b_end := F_end.binds (ps := ["self", "name"]) fun _ _ _ _ _ _ us hl => match us, hl with | [_, _], _ => rfl
  have F_con := fun_mk (st := sCont) l_con c_con k_con
  have b_con := F_con.binds (ps := ["self", "name"]) fun _ _ _ _ _ _ us hl => match us, hl with | [_, _], _ => rfl
  have F_pin := fun_mk (st := sPInit) l_pin c_pin k_pin
  have b_pin := F_pin.binds (ps := ["self", "blocks", "links"]) fun _ _ _ _ _ _ us hl => match us, hl with | [_, _, _], _ => rfl
  have F_pln := fun_mk (st := sPLen) l_pln c_pln k_pln
  have b_pln := F_pln.binds (ps := ["self"]) fun _ _ _ _ _ _ us hl => match us, hl with | [_], _ => rfl
  have F_peq := fun_mk (st := sPEq) l_peq c_peq k_peq
  have b_peq := F_peq.binds (ps := ["self", "other"]) fun _ _ _ _ _ _ us hl => match us, hl with | [_, _], _ => rfl
  have n_len := PySem.W.mg_none_of X G z_len
  have n_int := PySem.W.mg_none_of X G z_int
  have n_range := PySem.W.mg_none_of X G z_range
  have n_list := PySem.W.mg_none_of X G z_list
  have n_tuple := PySem.W.mg_none_of X G z_tuple
  have n_isinstance := PySem.W.mg_none_of X G z_isinstance
  have n_str := PySem.W.mg_none_of X G z_str
  have n_all := PySem.W.mg_none_of X G z_all
  have n_dict := PySem.W.mg_none_of X G z_dict
  have n_sorted := PySem.W.mg_none_of X G z_sorted
  have n_min := PySem.W.mg_none_of X G z_min
  have n_iter := PySem.W.mg_none_of X G z_iter
  have n_bool := PySem.W.mg_none_of X G z_bool
  have n_enumerate := PySem.W.mg_none_of X G z_enumerate
  have noC : ∀ k, PySem.W.kitOne K (.type (tyK k)) (.ref C) = some false := fun k => by
    cases k with
    | str => exact kit_no qcC tyC uC_str
    | int => exact kit_no qcC tyC uC_int
    | bl => exact kit_no qcC tyC uC_bool
    | non => exact kit_no qcC tyC uC_NoneType
    | tup => exact kit_no qcC tyC uC_tuple
    | lst => exact kit_no qcC tyC uC_list
    | dct => exact kit_no qcC tyC uC_dict
  have noQ : ∀ k, PySem.W.kitOne K (.type (tyK k)) (.ref CQ) = some false := fun k => by
    cases k with
    | str => exact kit_no qcQ tyQ uQ_str
    | int => exact kit_no qcQ tyQ uQ_int
    | bl => exact kit_no qcQ tyQ uQ_bool
    | non => exact kit_no qcQ tyQ uQ_NoneType
    | tup => exact kit_no qcQ tyQ uQ_tuple
    | lst => exact kit_no qcQ tyQ uQ_list
    | dct => exact kit_no qcQ tyQ uQ_dict
  have Bt : Bi mg := ⟨n_isinstance, n_str, n_len, n_all, n_dict, n_tuple, n_list, n_sorted, n_min, n_iter, ⟨t8, PySem.W.mg_of X G lw⟩, ⟨t4, PySem.W.mg_of X G me⟩⟩
  have S : ClsS K mg C := ⟨⟨pgC, hdC, poC, saC⟩, nP, nB, nN, PySem.W.mg_of X G aC⟩
  have SP : ClsP K mg CQ := ⟨⟨pgQ, hdQ, poQ, saQ⟩, nQB, nQL, PySem.W.mg_of X G aQ⟩
  have IS : IsC K C := ⟨haC, hnC, htC, hmC⟩
  have IP : IsC K CQ := ⟨haQ, hnC, htC, hmQ⟩
  have XB : ErrC K mg "BadSheet" CB := ⟨PySem.W.mg_of X G gCB, xCB, kCB, bCB, tCB⟩
  have XN : ErrC K mg "BadBlock" CN := ⟨PySem.W.mg_of X G gCN, xCN, kCN, bCN, tCN⟩
  have XK : ErrC K mg "BadKind" CK := ⟨PySem.W.mg_of X G gCK, xCK, kCK, bCK, tCK⟩
  have XP : ErrC K mg "BadPiece" CE := ⟨PySem.W.mg_of X G gCE, xCE, kCE, bCE, tCE⟩
  refine ⟨PySem.W.fnOf "law" "law" (defArgs sLaw) (defBody sLaw) (defScope sLaw) .none kV_law dc_law pm_law an_law (.ref cc) ct_law, [(cc, Pt)], spLaw K Pt, fun p hp => ?_, fun p hp => ?_, fun p hp => ?_, fun s u => .of_eq rfl, fun H a ns hl _ hH hS => ⟨a, ns, rfl, hS, hl, hH (cc, Pt) (List.mem_singleton.mpr rfl), fun _ => rfl⟩, fun base hb hn hT => ?_⟩
  · rw [List.mem_singleton.mp hp]
    exact own cc Pt _ _ _ _ _ _ l_law rfl rfl lkc h11
  · rw [List.mem_singleton.mp hp]
    exact nPt
  · rw [List.mem_singleton.mp hp]
    exact PySem.W.codeHd_of_K X hHd
  have TB := hT (cc, Pt) (List.mem_singleton.mpr rfl)
  have g_nxt := ok_next (P := l.prog) (w := w) (base := base) d_nxt.F d_cel d_num d_drw n_len n_int n_range
  have g_pik := ok_pick (P := l.prog) (w := w) (base := base) d_pik.F d_nxt g_nxt n_len
  have g_lwd := ok_word (P := l.prog) (w := w) (base := base) d_lwd.F d_pik g_pik d_nxt g_nxt n_range
  have g_voc := ok_vocab (P := l.prog) (w := w) (base := base) d_voc.F d_lwd g_lwd n_range
  have g_par := ok_partners (P := l.prog) (w := w) (base := base) d_par.F d_voc g_voc d_nxt g_nxt n_range
  have g_blo := ok_blocks (P := l.prog) (w := w) (base := base) d_blo.F d_voc g_voc d_nxt g_nxt d_pik g_pik n_range n_list n_tuple
  have g_sht := ok_sheet (P := l.prog) (w := w) (base := base) d_sht.F d_par g_par d_blo g_blo
  have g_wrd := ok_isWord (P := l.prog) (w := w) (base := base) d_wrd.F d_let Bt
  have g_apt := ok_arePart (P := l.prog) (w := w) (base := base) d_apt.F d_wrd g_wrd Bt
  have g_abk := ok_areBlocks (P := l.prog) (w := w) (base := base) d_abk.F d_wrd g_wrd d_aen Bt
  have g_ini := ok_init (P := l.prog) (w := w) (base := base) F_ini d_apt g_apt d_abk g_abk Bt S XB
  have g_ptr := ok_partner (P := l.prog) (w := w) (base := base) F_ptr Bt S XK
  have g_end := ok_ends (P := l.prog) (w := w) (base := base) F_end Bt S XN
  have g_con := ok_cont (P := l.prog) (w := w) (base := base) F_con Bt S
  have g_lks := ok_links (P := l.prog) (w := w) (base := base) d_lks.F d_lnk d_plc d_iin Bt n_int n_bool n_range
  have g_pts := ok_parts (P := l.prog) (w := w) (base := base) d_pts.F d_pfr Bt n_range
  have g_lkd := ok_linked (P := l.prog) (w := w) (base := base) (fR := C) (fdR := default) d_lkd.F d_lks g_lks d_pts g_pts Bt
  have g_cop := ok_copies (P := l.prog) (w := w) (base := base) d_cop.F d_wrd d_let Bt (PySem.W.mg_of X G mcp)
  have g_fit := ok_fit (P := l.prog) (w := w) (base := base) d_fit.F S Bt ⟨a_ptr, i_ptr, k_ptr⟩ g_ptr b_ptr ⟨a_end, i_end, k_end⟩ g_end b_end
  have g_chk := ok_check (P := l.prog) (w := w) (base := base) d_chk.F Bt S IS XB noC
  have g_pin := ok_pinit (P := l.prog) (w := w) (base := base) F_pin d_cop g_cop d_lkd g_lkd Bt SP XP
  have m_pln : Md l.prog w K mg base CX0 1 CQ "__len__" ["self"] (spPLen CQ) f_pln _ := ⟨⟨a_pln, i_pln, k_pln⟩, ok_plen F_pln Bt SP, b_pln⟩
  have m_peq : Md l.prog w K mg base CX0 1 CQ "__eq__" ["self", "other"] (spPEq K CQ) f_peq _ := ⟨⟨a_peq, i_peq, k_peq⟩, ok_peq F_peq Bt SP IP, b_peq⟩
  have m_con : Md l.prog w K mg base CX0 1 C "__contains__" ["self", "name"] (spCont C) f_con _ := ⟨⟨a_con, i_con, k_con⟩, g_con, b_con⟩
  have m_end : Md l.prog w K mg base (L2.CX l.prog w) 1 C "ends" ["self", "name"] (spGet C CN false) f_end _ := ⟨⟨a_end, i_end, k_end⟩, g_end, b_end⟩
  have g_ipo := ok_isPc (P := l.prog) (w := w) (base := base) d_ipo.F ⟨d_chk, g_chk⟩ ⟨d_cop, g_cop⟩ ⟨d_lkd, g_lkd⟩ ⟨d_fit, g_fit⟩ m_con Bt S SP IP noQ
  have g_cpc := ok_chkPc (P := l.prog) (w := w) (base := base) d_cpc.F ⟨d_ipo, g_ipo⟩ XP
  have g_rin := ok_rings (P := l.prog) (w := w) (base := base) d_rin.F ⟨d_cpc, g_cpc⟩ m_pln Bt SP
  have g_amo := ok_amts (P := l.prog) (w := w) (base := base) d_amo.F ⟨d_cpc, g_cpc⟩ Bt SP
  have g_fre := ok_free (P := l.prog) (w := w) (base := base) d_fre.F ⟨d_cpc, g_cpc⟩ ⟨d_fac, ok_facing d_fac.F⟩ m_end Bt S SP n_range n_enumerate
  have g_lfr := ok_lfree (P := l.prog) (w := w) (base := base) d_lfr.F ⟨d_len, ok_lends d_len.F n_enumerate⟩
  have g_lhu := ok_lhung (P := l.prog) (w := w) (base := base) d_lhu.F Bt n_enumerate
  have g_lpc := ok_lpiece (P := l.prog) (w := w) (base := base) d_lpc.F ⟨d_pik, g_pik⟩ ⟨d_lfr, g_lfr⟩ ⟨d_lhu, g_lhu⟩ ⟨d_nxt, g_nxt⟩ ⟨d_llk, ok_llink d_llk.F⟩ Bt n_range
  exact ok_law l_law c_law ⟨d_nxt, g_nxt⟩ ⟨d_sht, g_sht⟩ ⟨d_lpc, g_lpc⟩ ⟨d_lfr, g_lfr⟩ ⟨d_amo, g_amo⟩ ⟨d_fre, g_fre⟩ ⟨d_rin, g_rin⟩ ⟨d_ipo, g_ipo⟩ ⟨d_pik, g_pik⟩ ⟨d_spo, ok_spoilt d_spo.F Bt⟩ Bt S ⟨mkC, a_ini, i_ini, kcC⟩ g_ini b_ini SP ⟨mkQ, a_pin, i_pin, kcQ⟩ g_pin b_pin
    m_pln m_peq poQ neQ TB (PySem.W.mg_of X G a_err) k_err l_err c_err b_err XB.g XP.g ⟨exm_two bCB qCB tCB s_ss, exm_two bCB qCB tCB s_ps, exm_two bCE qCE tCE s_pp⟩
theorem walk {l : PySem.W.OpenLaw} {q : Program} {loose : List Str} {XP : (Str → Option Value) → Heap → Prop} {YP : World → Heap → Prop} {d : DefRec} {K : Params → PySem.W.Frag} (hn : l.most = some 63) (hdf : d.params.defaults = []) (hrec : ((recsOf q).any fun e => e.name == d.name) = true)
    (hY : ∀ (w : World) (h : Heap), YP w h → (K w.params).In h)
    (F : ∀ (w : World) (mg : Str → Option Value) (fa : Addr) (h : Heap), YP w h → (K w.params).In h → h.Ns mainGlobals mg → mg d.name = some (.ref fa) → LamX.OwnTab (K w.params) fa h → LamX.LawAtS l w (K w.params) CX0 11 63 "script" mg fa h) :
    PySem.W.WalkO q loose XP YP l.row.toRowW d [] (fun f vs => PySem.call f vs) :=
  LamX.walk_ofOwn (n := 63) (k := 11) (x := "script") (CX := fun _ => CX0) hn (by decide) hdf ⟨rfl, by decide, by decide⟩ hrec hY F fun _ _ _ _ _ z => z
end K1

set_option Elab.async false
set_option linter.all false
set_option maxRecDepth 100000
open PySem PySem.W PyProof.Rows in
set_option maxRecDepth 100000 in
set_option maxHeartbeats 0 in
theorem PySem.Challenge.cw_endsmeet_k03_whole_pieces_holds : PySem.Challenge.rw_endsmeet_k03_whole_pieces.Holds := by
  w_on; o_law; k_head; (case hw => w_witness2)
  k_fill
  refine K1.walk (l := PySem.Challenge.rw_endsmeet_k03_whole_pieces) rfl rfl (by decide +kernel) (fun w h Y => PySem.W.km_in_of Y) ?F
  case F =>
    intro w mg fa h Y KX G hmg own
    refine' K1.all_mk KX G hmg own ?a_iin ?l_iin ?c_iin ?k_iin ?a_let ?l_let ?c_let ?k_let ?a_wrd ?l_wrd ?c_wrd ?k_wrd ?a_apt ?l_apt ?c_apt ?k_apt ?a_aen ?l_aen ?c_aen ?k_aen ?a_abk ?l_abk ?c_abk ?k_abk ?a_chk ?l_chk ?c_chk ?k_chk ?a_plc ?l_plc ?c_plc ?k_plc ?a_lnk ?l_lnk ?c_lnk ?k_lnk ?a_lks ?l_lks ?c_lks ?k_lks ?a_fit ?l_fit ?c_fit ?k_fit ?a_fac ?l_fac ?c_fac ?k_fac ?a_pts ?l_pts ?c_pts ?k_pts ?a_pfr ?l_pfr ?c_pfr ?k_pfr ?a_cop ?l_cop ?c_cop ?k_cop ?a_lkd ?l_lkd ?c_lkd ?k_lkd ?a_ipo ?l_ipo ?c_ipo ?k_ipo ?a_cpc ?l_cpc ?c_cpc ?k_cpc ?a_fre ?l_fre ?c_fre ?k_fre ?a_rin ?l_rin ?c_rin ?k_rin ?a_amo ?l_amo ?c_amo ?k_amo ?a_cel ?l_cel ?c_cel ?k_cel ?a_drw ?l_drw ?c_drw ?k_drw ?a_num ?l_num ?c_num ?k_num ?a_nxt ?l_nxt ?c_nxt ?k_nxt ?a_pik ?l_pik ?c_pik ?k_pik ?a_lwd ?l_lwd ?c_lwd ?k_lwd ?a_voc ?l_voc ?c_voc ?k_voc ?a_par ?l_par ?c_par ?k_par ?a_blo ?l_blo ?c_blo ?k_blo ?a_sht ?l_sht ?c_sht ?k_sht ?a_len ?l_len ?c_len ?k_len ?a_llk ?l_llk ?c_llk ?k_llk ?a_lfr ?l_lfr ?c_lfr ?k_lfr ?a_lhu ?l_lhu ?c_lhu ?k_lhu ?a_lpc ?l_lpc ?c_lpc ?k_lpc ?a_err ?l_err ?c_err ?k_err ?a_spo ?l_spo ?c_spo ?k_spo ?a_law ?l_law ?c_law ?k_law ?aC ?aQ ?a_ini ?i_ini ?l_ini ?c_ini ?k_ini ?a_ptr ?i_ptr ?l_ptr ?c_ptr ?k_ptr ?a_end ?i_end ?l_end ?c_end ?k_end ?a_con ?i_con ?l_con ?c_con ?k_con ?a_pin ?i_pin ?l_pin ?c_pin ?k_pin ?a_pln ?i_pln ?l_pln ?c_pln ?k_pln ?a_peq ?i_peq ?l_peq ?c_peq ?k_peq ?pgC ?hdC ?poC ?saC ?mkC ?kcC ?neC ?haC ?hmC ?qcC ?tyC ?uC_str ?uC_int ?uC_bool ?uC_NoneType ?uC_tuple ?uC_list ?uC_dict ?pgQ ?hdQ ?poQ ?saQ ?mkQ ?kcQ ?neQ ?haQ ?hmQ ?qcQ ?tyQ ?uQ_str ?uQ_int ?uQ_bool ?uQ_NoneType ?uQ_tuple ?uQ_list ?uQ_dict ?nP ?nB ?nN ?nQB ?nQL ?hnC ?htC ?gCB ?xCB ?kCB ?bCB ?tCB ?gCN ?xCN ?kCN ?bCN ?tCN ?gCK ?xCK ?kCK ?bCK ?tCK ?gCE ?xCE ?kCE ?bCE ?tCE ?qCB ?qCE ?s_ss ?s_ps ?s_pp ?z_len ?z_int ?z_range ?z_list ?z_tuple ?z_isinstance ?z_str ?z_all ?z_dict ?z_sorted ?z_min ?z_iter ?z_bool ?z_enumerate ?lw ?me ?mcp ?lkc ?h11 ?nPt ?hHd
    (case a_iin => k_is)
    (case l_iin => k_is)
    (case c_iin => k_is)
    (case k_iin => k_is)
    (case a_let => k_is)
    (case l_let => k_is)
    (case c_let => k_is)
    (case k_let => k_is)
    (case a_wrd => k_is)
    (case l_wrd => k_is)
    (case c_wrd => k_is)
    (case k_wrd => k_is)
    (case a_apt => k_is)
    (case l_apt => k_is)
    (case c_apt => k_is)
    (case k_apt => k_is)
    (case a_aen => k_is)
    (case l_aen => k_is)
    (case c_aen => k_is)
    (case k_aen => k_is)
    (case a_abk => k_is)
    (case l_abk => k_is)
    (case c_abk => k_is)
    (case k_abk => k_is)
    (case a_chk => k_is)
    (case l_chk => k_is)
    (case c_chk => k_is)
    (case k_chk => k_is)
    (case a_plc => k_is)
    (case l_plc => k_is)
    (case c_plc => k_is)
    (case k_plc => k_is)
    (case a_lnk => k_is)
    (case l_lnk => k_is)
    (case c_lnk => k_is)
    (case k_lnk => k_is)
    (case a_lks => k_is)
    (case l_lks => k_is)
    (case c_lks => k_is)
    (case k_lks => k_is)
    (case a_fit => k_is)
    (case l_fit => k_is)
    (case c_fit => k_is)
    (case k_fit => k_is)
    (case a_fac => k_is)
    (case l_fac => k_is)
    (case c_fac => k_is)
    (case k_fac => k_is)
    (case a_pts => k_is)
    (case l_pts => k_is)
    (case c_pts => k_is)
    (case k_pts => k_is)
    (case a_pfr => k_is)
    (case l_pfr => k_is)
    (case c_pfr => k_is)
    (case k_pfr => k_is)
    (case a_cop => k_is)
    (case l_cop => k_is)
    (case c_cop => k_is)
    (case k_cop => k_is)
    (case a_lkd => k_is)
    (case l_lkd => k_is)
    (case c_lkd => k_is)
    (case k_lkd => k_is)
    (case a_ipo => k_is)
    (case l_ipo => k_is)
    (case c_ipo => k_is)
    (case k_ipo => k_is)
    (case a_cpc => k_is)
    (case l_cpc => k_is)
    (case c_cpc => k_is)
    (case k_cpc => k_is)
    (case a_fre => k_is)
    (case l_fre => k_is)
    (case c_fre => k_is)
    (case k_fre => k_is)
    (case a_rin => k_is)
    (case l_rin => k_is)
    (case c_rin => k_is)
    (case k_rin => k_is)
    (case a_amo => k_is)
    (case l_amo => k_is)
    (case c_amo => k_is)
    (case k_amo => k_is)
    (case a_cel => k_is)
    (case l_cel => k_is)
    (case c_cel => k_is)
    (case k_cel => k_is)
    (case a_drw => k_is)
    (case l_drw => k_is)
    (case c_drw => k_is)
    (case k_drw => k_is)
    (case a_num => k_is)
    (case l_num => k_is)
    (case c_num => k_is)
    (case k_num => k_is)
    (case a_nxt => k_is)
    (case l_nxt => k_is)
    (case c_nxt => k_is)
    (case k_nxt => k_is)
    (case a_pik => k_is)
    (case l_pik => k_is)
    (case c_pik => k_is)
    (case k_pik => k_is)
    (case a_lwd => k_is)
    (case l_lwd => k_is)
    (case c_lwd => k_is)
    (case k_lwd => k_is)
    (case a_voc => k_is)
    (case l_voc => k_is)
    (case c_voc => k_is)
    (case k_voc => k_is)
    (case a_par => k_is)
    (case l_par => k_is)
    (case c_par => k_is)
    (case k_par => k_is)
    (case a_blo => k_is)
    (case l_blo => k_is)
    (case c_blo => k_is)
    (case k_blo => k_is)
    (case a_sht => k_is)
    (case l_sht => k_is)
    (case c_sht => k_is)
    (case k_sht => k_is)
    (case a_len => k_is)
    (case l_len => k_is)
    (case c_len => k_is)
    (case k_len => k_is)
    (case a_llk => k_is)
    (case l_llk => k_is)
    (case c_llk => k_is)
    (case k_llk => k_is)
    (case a_lfr => k_is)
    (case l_lfr => k_is)
    (case c_lfr => k_is)
    (case k_lfr => k_is)
    (case a_lhu => k_is)
    (case l_lhu => k_is)
    (case c_lhu => k_is)
    (case k_lhu => k_is)
    (case a_lpc => k_is)
    (case l_lpc => k_is)
    (case c_lpc => k_is)
    (case k_lpc => k_is)
    (case a_err => k_is)
    (case l_err => k_is)
    (case c_err => k_is)
    (case k_err => k_is)
    (case a_spo => k_is)
    (case l_spo => k_is)
    (case c_spo => k_is)
    (case k_spo => k_is)
    (case a_law => k_is)
    (case l_law => k_is)
    (case c_law => k_is)
    (case k_law => k_is)
    (case aC => k_is)
    (case aQ => k_is)
    (case a_ini => k_is)
    (case i_ini => k_is)
    (case l_ini => k_is)
    (case c_ini => k_is)
    (case k_ini => k_is)
    (case a_ptr => k_is)
    (case i_ptr => k_is)
    (case l_ptr => k_is)
    (case c_ptr => k_is)
    (case k_ptr => k_is)
    (case a_end => k_is)
    (case i_end => k_is)
    (case l_end => k_is)
    (case c_end => k_is)
    (case k_end => k_is)
    (case a_con => k_is)
    (case i_con => k_is)
    (case l_con => k_is)
    (case c_con => k_is)
    (case k_con => k_is)
    (case a_pin => k_is)
    (case i_pin => k_is)
    (case l_pin => k_is)
    (case c_pin => k_is)
    (case k_pin => k_is)
    (case a_pln => k_is)
    (case i_pln => k_is)
    (case l_pln => k_is)
    (case c_pln => k_is)
    (case k_pln => k_is)
    (case a_peq => k_is)
    (case i_peq => k_is)
    (case l_peq => k_is)
    (case c_peq => k_is)
    (case k_peq => k_is)
    (case pgC => k_is)
    (case hdC => k_is)
    (case poC => k_is)
    (case saC => k_is)
    (case mkC => k_is)
    (case kcC => k_is)
    (case neC => k_is)
    (case haC => k_is)
    (case hmC => k_is)
    (case qcC => k_is)
    (case tyC => k_is)
    (case uC_str => first | rfl | k_is)
    (case uC_int => first | rfl | k_is)
    (case uC_bool => first | rfl | k_is)
    (case uC_NoneType => first | rfl | k_is)
    (case uC_tuple => first | rfl | k_is)
    (case uC_list => first | rfl | k_is)
    (case uC_dict => first | rfl | k_is)
    (case pgQ => k_is)
    (case hdQ => k_is)
    (case poQ => k_is)
    (case saQ => k_is)
    (case mkQ => k_is)
    (case kcQ => k_is)
    (case neQ => k_is)
    (case haQ => k_is)
    (case hmQ => k_is)
    (case qcQ => k_is)
    (case tyQ => k_is)
    (case uQ_str => first | rfl | k_is)
    (case uQ_int => first | rfl | k_is)
    (case uQ_bool => first | rfl | k_is)
    (case uQ_NoneType => first | rfl | k_is)
    (case uQ_tuple => first | rfl | k_is)
    (case uQ_list => first | rfl | k_is)
    (case uQ_dict => first | rfl | k_is)
    (case nP => k_is)
    (case nB => k_is)
    (case nN => k_is)
    (case nQB => k_is)
    (case nQL => k_is)
    (case hnC => k_is)
    (case htC => k_is)
    (case gCB => k_is)
    (case xCB => k_exc)
    (case kCB => k_is)
    (case bCB => k_is)
    (case tCB => k_is)
    (case gCN => k_is)
    (case xCN => k_exc)
    (case kCN => k_is)
    (case bCN => k_is)
    (case tCN => k_is)
    (case gCK => k_is)
    (case xCK => k_exc)
    (case kCK => k_is)
    (case bCK => k_is)
    (case tCK => k_is)
    (case gCE => k_is)
    (case xCE => k_exc)
    (case kCE => k_is)
    (case bCE => k_is)
    (case tCE => k_is)
    (case qCB => k_is)
    (case qCE => k_is)
    (case s_ss => first | rfl | k_is)
    (case s_ps => first | rfl | k_is)
    (case s_pp => first | rfl | k_is)
    (case z_len => k_is)
    (case z_int => k_is)
    (case z_range => k_is)
    (case z_list => k_is)
    (case z_tuple => k_is)
    (case z_isinstance => k_is)
    (case z_str => k_is)
    (case z_all => k_is)
    (case z_dict => k_is)
    (case z_sorted => k_is)
    (case z_min => k_is)
    (case z_iter => k_is)
    (case z_bool => k_is)
    (case z_enumerate => k_is)
    (case lw => k_is)
    (case me => k_is)
    (case mcp => k_is)
    (case lkc => k_is)
    (case h11 => exact rfl)
    (case nPt => first | exact rfl | kernel_rfl)
    (case hHd => first | exact rfl | kernel_rfl)

