import PyProof.Rows.All
import Wide.All
import OpenK.AllK
import Wide.FinOn
import HandS.ForMost
import HandS.Wide
import HandS.IsInst
import HandS.DictComp
import HandS.NoneIn
import HandS.Lambda
import HandS.TryMany
import HandS.TryElse
import HandS.OwnEq
import PyProof.InstNe
import HandS.WordsExc
import HandS.ExcOwn
import HandS.IterVal
import HandS.ExcIs
import HandS.TupMul
import HandS.Finally
import HandS.Style
import HandS.EndOwn
import HandS.WordsDict
import PySem.Challenge.RW_endsmeet_k01_sheets
set_option Elab.async false
set_option linter.all false
set_option maxRecDepth 100000
set_option maxHeartbeats 1000000
namespace K1
open PySem PySem.Spec PyProof.Rows L2
def topS (i : Nat) : Stmt := PySem.Challenge.pw_endsmeet_k01_sheets.main.body.getD i (.Pass ⟨0, 0, 0, 0⟩)
abbrev sCell : Stmt := topS 16
abbrev sDraw : Stmt := topS 17
abbrev sNumber : Stmt := topS 18
abbrev sNext : Stmt := topS 19
abbrev sPick : Stmt := topS 20
theorem scCell : FnScope ["script", "k"] ["script", "k"] (defScope sCell) := ⟨rfl, rfl, rfl, by decide +kernel, rfl, by decide +kernel, by decide +kernel⟩
theorem scDraw : FnScope ["cell", "k", "bound", "primes"] ["cell", "k", "bound"] (defScope sDraw) := ⟨rfl, rfl, rfl, by decide +kernel, rfl, by decide +kernel, by decide +kernel⟩
theorem scNumber : FnScope ["cell", "k", "bound", "power", "lap", "remains", "small"] ["cell", "k", "bound"] (defScope sNumber) := ⟨rfl, rfl, rfl, by decide +kernel, rfl, by decide +kernel, by decide +kernel⟩
theorem scNext : FnScope ["draw", "bound", "at", "cell"] ["draw", "bound"] (defScope sNext) := ⟨rfl, rfl, rfl, by decide +kernel, rfl, by decide +kernel, by decide +kernel⟩
theorem scPick : FnScope ["draw", "things"] ["draw", "things"] (defScope sPick) := ⟨rfl, rfl, rfl, by decide +kernel, rfl, by decide +kernel, by decide +kernel⟩
/-- where a def stands, by its name among the globals -/
structure D (K : PySem.W.Frag) (mg : Str → Option Value) (x : Str) (st : Stmt) (ps : List Str) (f : Addr) (fd : FuncData) : Prop where
  F : Fun K x x st f fd
  m : mg x = some (.ref f)
  b : Binds K fd ps []
theorem same_upd {H : Hp} {p : Addr} {o : HO} (h : H p = none) : Same H (upd H p o) := fun b x e => by
  rw [upd_ne (ne_of_none e h)]
  exact e
section
variable {P : Program} {w : World} {K : PySem.W.Frag} {mg : Str → Option Value} {base : Heap}
def spCell (K : PySem.W.Frag) : Sp := fun vs H Q _ => ∃ (a : Addr) (ns : List Int) (k : Int), vs = [.ref a, .int k] ∧ SqL K H a (ns.map V.int) ∧ 0 ≤ k ∧ ∀ z, Q (.int z) H
theorem ok_cell {f : Addr} {fd : FuncData} (F : Fun K "_law_cell_at" "_law_cell_at" sCell f fd) (ml : mg "len" = none) : FnOk P w K mg base CX0 1 f fd ["script", "k"] (spCell K) := by
  refine F.ok scCell (fun vs H Q E h => ?_) (fun cdv A outer s H vs Q E hr h => ?_)
  · obtain ⟨a, ns, k, rfl, _⟩ := h
    rfl
  · obtain ⟨a, ns, k, rfl, hS, hk, q⟩ := h
    refine ⟨_, pss_cons (ps_if (pt_cmpR op_lt (pv 1) (pe_callB call_len_seq (by rfl) ml PySem.boot_len (pa_cons (pv 0) pa_nil)) (nomark _)) (pss_one (ps_ret (pe_ix ix_list (pv 0) (pv 1) (fun _ _ => rfl)))) pss_nil)
      (pss_one (ps_ret pe_int)), ?_⟩
    refine ⟨_, rfl, _, rfl, a, _, rfl, .inl hS, _, _, rfl, rfl, _, rfl, ?_⟩
    refine ite2 (fun e => ?_) (fun e => ?_)
    · have e1 : k < ((ns.map V.int).length : Int) := of_decide_eq_true e
      rw [List.length_map] at e1
      have hj : k.toNat < ns.length := by omega
      refine ⟨_, rfl, _, rfl, a, _, _, .int ns[k.toNat], rfl, rfl, hS, ?_, q _⟩
      refine at_of (j := k.toNat) (by omega) ?_
      rw [List.getElem?_map, List.getElem?_eq_getElem hj]
      rfl
    · exact q 0
def spDraw : Sp := fun vs H Q _ => ∃ (c k b : Int), vs = [.int c, .int k, .int b] ∧ 0 ≤ k ∧ 0 < b ∧ ∀ r H', 0 ≤ r → r < b → Same H H' → Q (.int r) H'
theorem ok_draw {f : Addr} {fd : FuncData} (F : Fun K "_law_draw" "_law_draw" sDraw f fd) (mi : mg "int" = none) : FnOk P w K mg base CX0 1 f fd ["cell", "k", "bound"] spDraw := by
  refine F.ok scDraw (fun vs H Q E h => ?_) (fun cdv A outer s H vs Q E hr h => ?_)
  · obtain ⟨c, k, b, rfl, _⟩ := h
    rfl
  · obtain ⟨c, k, b, rfl, hk, hb, q⟩ := h
    refine ⟨_, pss_cons (ps_set (i := 3) scDraw.nd rfl (.inl rfl) (pe_tup (pa_cons pe_int (pa_cons pe_int (pa_cons pe_int (pa_cons pe_int (pa_cons pe_int (pa_cons pe_int (pa_cons pe_int (pa_cons pe_int (pa_cons pe_int (pa_cons pe_int (pa_cons pe_int (pa_cons pe_int (pa_cons pe_int (pa_cons pe_int (pa_cons pe_int (pa_cons pe_int pa_nil))))))))))))))))))
      (pss_one (ps_ret (pe_op op_mod (pe_op op_mod (pe_callTy call_int1 (by rfl) mi boot_int (pa_cons (pe_op op_add (pe_op op_mul (pv 0) pe_int) (pe_op op_mul (pv 1) pe_int)) pa_nil))
        (pe_ix ix_tup (pv 3) (pe_op op_mod (pe_callTy call_int1 (by rfl) mi boot_int (pa_cons (pv 1) pa_nil)) pe_int) (fun _ _ => rfl))) (pv 2)))), ?_⟩
    refine ⟨(by show 16 ≤ sizeLine; decide), fun p np => ?_⟩
    refine ⟨_, rfl, _, _, rfl, rfl, .inr ⟨by decide, by decide⟩, _, rfl, _, _, rfl, rfl, .inr ⟨by decide, by decide⟩, _, _, rfl, rfl, .inl ⟨_, rfl, ?_⟩⟩
    refine ⟨_, rfl, _, rfl, .inl ⟨_, rfl, _, _, rfl, rfl, (by show (0 : Int) < 16; decide), ?_⟩⟩
    obtain ⟨m, hm, hmp⟩ : ∃ m : Int, ([V.int 1000003, V.int 1000033, V.int 1000037, V.int 1000039, V.int 1000081, V.int 1000099, V.int 1000117, V.int 1000121, V.int 1000133, V.int 1000151, V.int 1000159, V.int 1000171, V.int 1000183, V.int 1000187, V.int 1000193, V.int 1000199] : List V)[(k % 16).toNat]? = some (.int m) ∧ 0 < m := by
      have h16 : (k % 16).toNat < 16 := by omega
      generalize (k % 16).toNat = j at h16
      match j, h16 with
      | 0, _ => exact ⟨_, rfl, by decide⟩
      | 1, _ => exact ⟨_, rfl, by decide⟩
      | 2, _ => exact ⟨_, rfl, by decide⟩
      | 3, _ => exact ⟨_, rfl, by decide⟩
      | 4, _ => exact ⟨_, rfl, by decide⟩
      | 5, _ => exact ⟨_, rfl, by decide⟩
      | 6, _ => exact ⟨_, rfl, by decide⟩
      | 7, _ => exact ⟨_, rfl, by decide⟩
      | 8, _ => exact ⟨_, rfl, by decide⟩
      | 9, _ => exact ⟨_, rfl, by decide⟩
      | 10, _ => exact ⟨_, rfl, by decide⟩
      | 11, _ => exact ⟨_, rfl, by decide⟩
      | 12, _ => exact ⟨_, rfl, by decide⟩
      | 13, _ => exact ⟨_, rfl, by decide⟩
      | 14, _ => exact ⟨_, rfl, by decide⟩
      | 15, _ => exact ⟨_, rfl, by decide⟩
      | n + 16, h => exact absurd h (by omega)
    refine ⟨p, _, _, .int m, rfl, rfl, SqT.of upd_same, at_of (j := (k % 16).toNat) (by omega) hm, _, _, rfl, rfl, hmp, _, rfl, _, _, rfl, rfl, hb, ?_⟩
    exact q _ _ (Int.emod_nonneg _ (by omega)) (Int.emod_lt_of_pos _ hb) (same_upd np)
end
end K1

set_option Elab.async false
set_option linter.all false
set_option maxRecDepth 100000
set_option maxHeartbeats 1000000
namespace K1
open PySem PySem.Spec PyProof.Rows L2
/-- all that is tracked stays, but what stands at d -/
def Kp (d : Addr) (H H' : Hp) : Prop := ∀ b o, b ≠ d → H b = some o → H' b = some o
theorem Kp.refl {d : Addr} {H : Hp} : Kp d H H := fun _ _ _ h => h
theorem Kp.trans {d : Addr} {H H1 H2 : Hp} (a : Kp d H H1) (b : Kp d H1 H2) : Kp d H H2 := fun c o n h => b c o n (a c o n h)
theorem Kp.of {d : Addr} {H H' : Hp} (s : Same H H') : Kp d H H' := fun b o _ h => s b o h
theorem Kp.free {d : Addr} {H H' : Hp} (e : Kp d H H') {l : Addr} (n : l ≠ d) (h : H' l = Option.none) : H l = Option.none := by
  cases q : H l with
  | none => rfl
  | some o =>
    rw [e l o n q] at h
    cases h
theorem Kp.seq {K : PySem.W.Frag} {d : Addr} {H H' : Hp} {a : Addr} {xs : List V} (e : Kp d H H') (n : a ≠ d) (h : SqL K H a xs) : SqL K H' a xs := by
  rcases h with (h | ⟨o, h⟩) | h
  · exact .inl (.inl (e _ _ n h))
  · exact .inl (.inr ⟨o, e _ _ n h⟩)
  · exact .inr h
theorem Kp.upd {d : Addr} {H : Hp} {o : HO} : Kp d H (upd H d o) := fun b u n h => by
  rw [upd_ne n]
  exact h
/-- the list of the draws at d, the script at s -/
structure DrawAt (H : Hp) (d s : Addr) : Prop where
  ex : ∃ (ns : List Int) (n : Int), H d = some (.lst [.ref s, .int 0, .int n]) ∧ H s = some (.lst (ns.map V.int)) ∧ 0 ≤ n
  ne : s ≠ d
theorem DrawAt.same {H H' : Hp} {d s : Addr} (h : DrawAt H d s) (e : Same H H') : DrawAt H' d s := by
  obtain ⟨ns, n, h1, h2, h3⟩ := h.ex
  exact ⟨⟨ns, n, e _ _ h1, e _ _ h2, h3⟩, h.ne⟩
theorem DrawAt.upd {H : Hp} {d s L : Addr} {o : HO} (h : DrawAt H d s) (n1 : L ≠ d) (n2 : L ≠ s) : DrawAt (L2.upd H L o) d s := by
  obtain ⟨ns, n, h1, h2, h3⟩ := h.ex
  exact ⟨⟨ns, n, by rw [upd_ne n1.symm]; exact h1, by rw [upd_ne n2.symm]; exact h2, h3⟩, h.ne⟩
theorem DrawAt.nd {H : Hp} {d s D : Addr} (h : DrawAt H d s) (n : H D = none) : D ≠ d := by
  obtain ⟨ns, k, h1, _⟩ := h.ex
  exact (ne_of_none h1 n).symm
theorem DrawAt.ns {H : Hp} {d s D : Addr} (h : DrawAt H d s) (n : H D = none) : D ≠ s := by
  obtain ⟨ns, k, _, h1, _⟩ := h.ex
  exact (ne_of_none h1 n).symm
section
variable {P : Program} {w : World} {K : PySem.W.Frag} {mg : Str → Option Value} {base : Heap}
def spNumber : Sp := fun vs H Q _ => ∃ (c k b : Int), vs = [.int c, .int k, .int b] ∧ 0 ≤ k ∧ k ≤ 12 ∧ 0 < b ∧ ∀ r H', 0 ≤ r → r < b → Same H H' → Q (.int r) H'
theorem pow_small {j : Nat} (h : j ≤ 23) : ((1009 : Int) ^ j).natAbs < 2 ^ 240 := by
  rw [Int.natAbs_pow]
  have h1 : (1009 : Int).natAbs ^ j ≤ 1009 ^ 23 := Nat.pow_le_pow_right (by decide) h
  exact Nat.lt_of_le_of_lt h1 (by decide)
theorem ok_number {f fD : Addr} {fd fdD : FuncData} (F : Fun K "_law_number" "_law_number" sNumber f fd) (dD : D K mg "_law_draw" sDraw ["cell", "k", "bound"] fD fdD) (mi : mg "int" = none) (mr : mg "range" = none) : FnOk P w K mg base CX0 2 f fd ["cell", "k", "bound"] spNumber := by
  have G : FnOk P w K mg base CX0 1 fD fdD ["cell", "k", "bound"] spDraw := ok_draw dD.F mi
  refine F.ok scNumber (fun vs H Q E h => ?_) (fun cdv A outer s H vs Q E hr h => ?_)
  · obtain ⟨c, k, b, rfl, _⟩ := h
    rfl
  · obtain ⟨c, k, b, rfl, hk, hk2, hb, q⟩ := h
    refine ⟨_, pss_cons (ps_set (i := 3) scNumber.nd rfl (.inl rfl) pe_int)
      (pss_cons (ps_for PassesOwn.never rfl (pi_range1 rfl mr (pa_cons (pe_op op_mod (pe_callTy call_int1 (by rfl) mi boot_int (pa_cons (pv 1) pa_nil)) pe_int) pa_nil)) (pg_name (i := 4) scNumber.nd rfl (.inl rfl))
        (pss_one (ps_set (i := 3) scNumber.nd rfl (.inl rfl) (pe_op op_mul (pv 3) pe_int))))
      (pss_cons (ps_set (i := 5) scNumber.nd rfl (.inl rfl) (pe_op op_fdivW (pe_op op_sub (pv 0) (pe_op op_pow pe_int pe_int)) (pv 3)))
      (pss_cons (ps_if (pt_cmpR op_gt (pv 5) pe_int (nomark _)) (pss_one (ps_ret (pe_op op_mod (pe_op op_mod (pe_callTy call_int1 (by rfl) mi boot_int (pa_cons (pv 5) pa_nil)) pe_int) (pv 2)))) pss_nil)
      (pss_cons (ps_set (i := 6) scNumber.nd rfl (.inl rfl) (pe_op op_mod (pe_callTy call_int1 (by rfl) mi boot_int (pa_cons (pv 0) pa_nil)) pe_int))
      (pss_one (ps_ret (pe_op op_mod (pe_call G hr (by rfl) dD.m dD.F.kp dD.b .nil pass0 (pa_cons (pe_op op_mul (pe_op op_add (pv 6) (pe_op op_mul pe_int (pv 1))) (pe_op op_add (pe_op op_add (pv 6) (pe_op op_mul pe_int (pv 1))) pe_int))
        (pa_cons (pe_op op_add (pe_op op_mod (pe_callTy call_int1 (by rfl) mi boot_int (pa_cons (pv 1) pa_nil)) pe_int) pe_int) (pa_cons pe_int pa_nil)))) (pv 2)))))))), ?_⟩
    refine ⟨_, rfl, .inl ⟨_, rfl, _, _, rfl, rfl, (by show (0 : Int) < 24; decide), k % 24, rfl, by omega, by omega, ?_⟩⟩
    have h23 : (k % 24).toNat ≤ 23 := by omega
    refine for_range (lo := 0) (n := (k % 24).toNat) (fun i σ H2 => ∃ v4, σ = [some (.int c), some (.int k), some (.int b), some (.int (1009 ^ i)), v4, none, none] ∧ H2 = H) ⟨none, rfl, rfl⟩ ?_ ?_
    · rintro i σ H2 hi ⟨v4, rfl, rfl⟩
      refine ⟨_, rfl, _, _, rfl, rfl, .inr ⟨by decide, by decide⟩, ?_⟩
      exact ⟨some (V.int (0 + (i : Int))), by rw [Int.pow_succ]; rfl, rfl⟩
    · rintro σ H2 ⟨v4, rfl, rfl⟩
      have hp := pow_small h23
      have hpos : (0 : Int) < 1009 ^ (k % 24).toNat := Int.pow_pos (by decide)
      generalize (1009 : Int) ^ (k % 24).toNat = pw at hp hpos
      refine ⟨_, rfl, _, _, rfl, rfl, ⟨by decide, by decide, by decide⟩, _, _, rfl, rfl, _, rfl, _, _, rfl, rfl, wide_div hpos hp (by decide) (by decide), ?_⟩
      refine ⟨_, rfl, _, _, rfl, rfl, _, rfl, ?_⟩
      refine ite2 (fun e => ?_) (fun e => ?_)
      · refine ⟨_, rfl, .inl ⟨_, rfl, _, _, rfl, rfl, (by show (0 : Int) < 1009; decide), _, rfl, _, _, rfl, rfl, hb, ?_⟩⟩
        exact q _ _ (Int.emod_nonneg _ (by omega)) (Int.emod_lt_of_pos _ hb) (Same.refl _)
      · refine ⟨_, rfl, .inl ⟨_, rfl, _, _, rfl, rfl, (by show (0 : Int) < 1000003; decide), ?_⟩⟩
        have a1 : 0 ≤ c % 1000003 := Int.emod_nonneg _ (by decide)
        have a2 : c % 1000003 < 1000003 := Int.emod_lt_of_pos _ (by decide)
        generalize c % 1000003 = sm at a1 a2
        refine ⟨_, rfl, _, rfl, _, _, rfl, rfl, .inl ⟨by decide, by decide⟩, _, _, rfl, rfl, _, rfl, _, rfl, _, _, rfl, rfl, .inl ⟨by decide, by decide⟩, _, _, rfl, rfl, _, _, rfl, rfl, _, _, rfl, rfl, .inl ⟨by omega, by omega⟩, ?_⟩
        refine ⟨_, rfl, .inl ⟨_, rfl, _, _, rfl, rfl, (by show (0 : Int) < 9; decide), _, _, rfl, rfl, ?_⟩⟩
        refine ⟨_, _, _, rfl, by omega, by decide, fun r H' h1 h2 sm' => ?_⟩
        refine ⟨_, rfl, _, _, rfl, rfl, hb, ?_⟩
        exact q _ _ (Int.emod_nonneg _ (by omega)) (Int.emod_lt_of_pos _ hb) sm'
def spNext : Sp := fun vs H Q _ => ∃ (d sc : Addr) (b : Int), vs = [.ref d, .int b] ∧ DrawAt H d sc ∧ 0 < b ∧ ∀ r H', 0 ≤ r → r < b → DrawAt H' d sc → Kp d H H' → Q (.int r) H'
theorem ok_next {f fC fN fD : Addr} {fd fdC fdN fdD : FuncData} (F : Fun K "_law_next" "_law_next" sNext f fd) (dC : D K mg "_law_cell_at" sCell ["script", "k"] fC fdC) (dN : D K mg "_law_number" sNumber ["cell", "k", "bound"] fN fdN) (dD : D K mg "_law_draw" sDraw ["cell", "k", "bound"] fD fdD) (ml : mg "len" = none) (mi : mg "int" = none) (mr : mg "range" = none) : FnOk P w K mg base CX0 3 f fd ["draw", "bound"] spNext := by
  have GC : FnOk P w K mg base CX0 1 fC fdC ["script", "k"] (spCell K) := ok_cell dC.F ml
  have GN : FnOk P w K mg base CX0 2 fN fdN ["cell", "k", "bound"] spNumber := ok_number dN.F dD mi mr
  refine F.ok scNext (fun vs H Q E h => ?_) (fun cdv A outer s H vs Q E hr h => ?_)
  · obtain ⟨d, sc, b, rfl, _⟩ := h
    rfl
  · obtain ⟨d, sc, b, rfl, ⟨⟨ns, n, hd, hS, hn⟩, hne⟩, hb, q⟩ := h
    have hr1 : Room 1 _ := hr.mono (by decide)
    refine ⟨_, pss_cons (ps_asg (pe_op op_add (pe_ix ix_list (pv 0) pe_int (fun _ _ => rfl)) pe_int) (pg_sub (pv 0) pe_int set_list))
      (pss_cons (ps_set (i := 2) scNext.nd rfl (.inl rfl) (pe_op op_fdiv (pe_ix ix_list (pv 0) pe_int (fun _ _ => rfl)) pe_int))
      (pss_cons (ps_set (i := 3) scNext.nd rfl (.inl rfl) (pe_op op_add (pe_call GC hr1 (by rfl) dC.m dC.F.kp dC.b .nil pass0 (pa_cons (pe_ix ix_list (pv 0) pe_int (fun _ _ => rfl)) (pa_cons (pe_op op_add (pe_ix ix_list (pv 0) pe_int (fun _ _ => rfl)) (pv 2)) pa_nil))) (pe_op op_mul pe_int (pv 2))))
      (pss_one (ps_ret (pe_call GN hr (by rfl) dN.m dN.F.kp dN.b .nil pass0 (pa_cons (pv 3) (pa_cons (pe_op op_add (pe_op op_mod (pe_callTy call_int1 (by rfl) mi boot_int (pa_cons (pe_ix ix_list (pv 0) pe_int (fun _ _ => rfl)) pa_nil)) pe_int) pe_int) (pa_cons (pv 1) pa_nil)))))))), ?_⟩
    -- draw[2] = draw[2] + 1
    refine ⟨_, rfl, d, _, 2, _, rfl, rfl, SqL.of hd, at_of (j := 2) rfl rfl, _, _, rfl, rfl, _, rfl, d, _, 2, 2, rfl, rfl, hd, rfl, ?_⟩
    have hd' : (upd H d (.lst [.ref sc, .int 0, .int (n + 1)])) d = some (.lst [.ref sc, .int 0, .int (n + 1)]) := upd_same
    have kp : Kp d H (upd H d (.lst [.ref sc, .int 0, .int (n + 1)])) := Kp.upd
    have hS' := kp _ _ hne hS
    -- at = draw[2] // 12
    refine ⟨_, rfl, d, _, 2, _, rfl, rfl, SqL.of hd', at_of (j := 2) rfl rfl, _, _, rfl, rfl, ⟨by decide, by decide⟩, ?_⟩
    -- cell
    refine ⟨_, rfl, d, _, 0, _, rfl, rfl, SqL.of hd', at_of (j := 0) rfl rfl, _, rfl, d, _, 1, _, rfl, rfl, SqL.of hd', at_of (j := 1) rfl rfl, _, rfl, _, _, rfl, rfl, ?_⟩
    refine ⟨sc, ns, _, rfl, SqL.of hS', by omega, fun z => ?_⟩
    refine ⟨_, rfl, _, _, rfl, rfl, .inl ⟨by decide, by decide⟩, _, _, rfl, rfl, ?_⟩
    refine ⟨_, rfl, _, rfl, d, _, 2, _, rfl, rfl, SqL.of hd', at_of (j := 2) rfl rfl, .inl ⟨_, rfl, _, _, rfl, rfl, (by show (0 : Int) < 12; decide), _, _, rfl, rfl, _, rfl, ?_⟩⟩
    refine ⟨_, _, _, rfl, by omega, by omega, hb, fun r H' h1 h2 sm => ?_⟩
    exact q r H' h1 h2 ⟨⟨ns, n + 1, sm _ _ hd', sm _ _ hS', by omega⟩, hne⟩ (kp.trans (Kp.of sm))
def spPick (K : PySem.W.Frag) : Sp := fun vs H Q _ => ∃ (d sc t : Addr) (xs : List V), vs = [.ref d, .ref t] ∧ DrawAt H d sc ∧ SqL K H t xs ∧ t ≠ d ∧ 0 < xs.length ∧ ∀ (i : Nat) v H', xs[i]? = some v → DrawAt H' d sc → Kp d H H' → Q v H'
theorem ok_pick {f fX : Addr} {fd fdX : FuncData} (F : Fun K "_law_pick" "_law_pick" sPick f fd) (dX : D K mg "_law_next" sNext ["draw", "bound"] fX fdX) (GX : FnOk P w K mg base CX0 3 fX fdX ["draw", "bound"] spNext) (ml : mg "len" = none) : FnOk P w K mg base CX0 4 f fd ["draw", "things"] (spPick K) := by
  refine F.ok scPick (fun vs H Q E h => ?_) (fun cdv A outer s H vs Q E hr h => ?_)
  · obtain ⟨d, sc, t, xs, rfl, _⟩ := h
    rfl
  · obtain ⟨d, sc, t, xs, rfl, hD, hT, hne, h0, q⟩ := h
    refine ⟨_, pss_one (ps_ret (pe_ix ix_list (pv 1) (pe_call GX hr (by rfl) dX.m dX.F.kp dX.b .nil pass0 (pa_cons (pv 0) (pa_cons (pe_callB call_len_seq (by rfl) ml PySem.boot_len (pa_cons (pv 1) pa_nil)) pa_nil))) (fun _ _ => rfl))), ?_⟩
    refine ⟨_, rfl, _, rfl, _, rfl, t, _, rfl, .inl hT, ?_⟩
    refine ⟨d, sc, _, rfl, hD, by omega, fun r H' h1 h2 hD' kp => ?_⟩
    have hj : r.toNat < xs.length := by omega
    have hx : xs[r.toNat]? = some xs[r.toNat] := List.getElem?_eq_getElem hj
    exact ⟨t, _, _, _, rfl, rfl, kp.seq hne hT, at_of (by omega) hx, q _ _ _ hx hD' kp⟩
end
end K1

set_option Elab.async false
set_option linter.all false
set_option maxRecDepth 100000
set_option maxHeartbeats 1000000
namespace K1
open PySem PySem.Spec PyProof.Rows L2
abbrev sWord : Stmt := topS 21

theorem scWord : FnScope ["draw", "letters", "many", "turn"] ["draw"] (defScope sWord) := ⟨rfl, rfl, rfl, by decide +kernel, rfl, by decide +kernel, by decide +kernel⟩

/-- a word: one to eight small letters -/
structure IsW (z : Str) : Prop where
  lo : 1 ≤ z.length
  hi : z.length ≤ 8
  ab : ∀ c ∈ z.cps.toList, 97 ≤ c ∧ c ≤ 122
theorem Kp.list {d D : Addr} {H H' : Hp} {xs : List V} (e : Kp d H H') (n : D ≠ d) (h : H D = some (.lst xs)) : H' D = some (.lst xs) := e D _ n h
theorem lett {j : Nat} (h : j < 26) : ∃ c, (PySem.Str.ofString "abcdefghijklmnopqrstuvwxyz").cps[j]? = some c ∧ 97 ≤ c ∧ c ≤ 122 := by
  have e : (PySem.Str.ofString "abcdefghijklmnopqrstuvwxyz").cps = #[97, 98, 99, 100, 101, 102, 103, 104, 105, 106, 107, 108, 109, 110, 111, 112, 113, 114, 115, 116, 117, 118, 119, 120, 121, 122] := by decide +kernel
  rw [e]
  refine ⟨97 + j, ?_, by omega, by omega⟩
  match j, h with
  | 0, _ | 1, _ | 2, _ | 3, _ | 4, _ | 5, _ | 6, _ | 7, _ | 8, _ | 9, _ | 10, _ | 11, _ | 12, _ | 13, _ | 14, _ | 15, _ | 16, _ | 17, _ | 18, _ | 19, _ | 20, _ | 21, _ | 22, _ | 23, _ | 24, _ | 25, _ => rfl
  | n + 26, h => exact absurd h (by omega)
theorem lett_len : (PySem.Str.ofString "abcdefghijklmnopqrstuvwxyz").length = 26 := by decide +kernel
theorem empty_cps : (PySem.Str.ofString "").cps = #[] := by decide +kernel
/-- one letter -/
def Sign (z : Str) : Prop := ∃ c, z = ⟨#[c]⟩ ∧ 97 ≤ c ∧ c ≤ 122
theorem join_signs : ∀ zs : List Str, (∀ z ∈ zs, Sign z) → (Str.join (PySem.Str.ofString "") zs).length = zs.length ∧ ∀ c ∈ (Str.join (PySem.Str.ofString "") zs).cps.toList, 97 ≤ c ∧ c ≤ 122
  | [], _ => ⟨rfl, fun c h => by
    have h : c ∈ (#[] : Array Nat).toList := h
    simp at h⟩
  | [z], h => by
    obtain ⟨c, rfl, h1, h2⟩ := h z (by simp)
    refine ⟨rfl, fun x hx => ?_⟩
    have hx : x ∈ (#[c] : Array Nat).toList := hx
    have e : x = c := by simpa using hx
    rw [e]
    exact ⟨h1, h2⟩
  | z :: y :: r, h => by
    obtain ⟨i1, i2⟩ := join_signs (y :: r) fun q hq => h q (by simp [List.mem_cons] at hq ⊢; exact .inr hq)
    obtain ⟨c, rfl, h1, h2⟩ := h z (by simp)
    have e : (Str.join (PySem.Str.ofString "") ((⟨#[c]⟩ : Str) :: y :: r)).cps = #[c] ++ #[] ++ (Str.join (PySem.Str.ofString "") (y :: r)).cps := by
      show (#[c] ++ (PySem.Str.ofString "").cps) ++ (Str.join (PySem.Str.ofString "") (y :: r)).cps = _
      rw [empty_cps]
    have i1' : (Str.join (PySem.Str.ofString "") (y :: r)).cps.size = (y :: r).length := i1
    refine ⟨?_, fun x hx => ?_⟩
    · show (Str.join (PySem.Str.ofString "") ((⟨#[c]⟩ : Str) :: y :: r)).cps.size = _
      rw [e]
      simp only [Array.size_append, i1', List.length_cons]
      simp
      omega
    · rw [e] at hx
      simp only [Array.toList_append, List.mem_append] at hx
      rcases hx with (hx | hx) | hx
      · have e2 : x = c := by simpa using hx
        rw [e2]
        exact ⟨h1, h2⟩
      · simp at hx
      · exact i2 x hx
theorem signs_word {zs : List Str} (h : ∀ z ∈ zs, Sign z) (h1 : 1 ≤ zs.length) (h2 : zs.length ≤ 8) : IsW (Txt.join (PySem.Str.ofString "") zs) := by
  rw [TL.join_eq]
  obtain ⟨a, b⟩ := join_signs zs h
  exact ⟨by omega, by omega, b⟩
theorem signs_sum : ∀ {zs : List Str}, (∀ z ∈ zs, Sign z) → (zs.map (·.length)).sum = zs.length
  | [], _ => rfl
  | z :: r, h => by
    obtain ⟨c, rfl, _⟩ := h z (by simp)
    have ih := signs_sum (zs := r) fun q hq => h q (by simp [hq])
    rw [List.map_cons, List.sum_cons, ih, List.length_cons]
    show 1 + r.length = _
    omega
section
variable {P : Program} {w : World} {K : PySem.W.Frag} {mg : Str → Option Value} {base : Heap}
def spWord : Sp := fun vs H Q _ => ∃ (d sc : Addr), vs = [.ref d] ∧ DrawAt H d sc ∧ ∀ z H', IsW z → DrawAt H' d sc → Kp d H H' → Q (.str z) H'
theorem ok_word {f fP fX : Addr} {fd fdP fdX : FuncData} (F : Fun K "_law_word" "_law_word" sWord f fd) (dP : D K mg "_law_pick" sPick ["draw", "things"] fP fdP) (GP : FnOk P w K mg base CX0 4 fP fdP ["draw", "things"] (spPick K))
    (dX : D K mg "_law_next" sNext ["draw", "bound"] fX fdX) (GX : FnOk P w K mg base CX0 3 fX fdX ["draw", "bound"] spNext) (mr : mg "range" = none) : FnOk P w K mg base CX0 5 f fd ["draw"] spWord := by
  refine F.ok scWord (fun vs H Q E h => ?_) (fun cdv A outer s H vs Q E hr h => ?_)
  · obtain ⟨d, sc, rfl, _⟩ := h
    rfl
  · obtain ⟨d, sc, rfl, hD, q⟩ := h
    have hr3 : Room 3 _ := hr.mono (by decide)
    refine ⟨_, pss_cons (ps_set (i := 1) scWord.nd rfl (.inr rfl) pe_str)
      (pss_cons (ps_set (i := 2) scWord.nd rfl (.inl rfl) (pe_call GP hr (by rfl) dP.m dP.F.kp dP.b .nil pass0 (pa_cons (pv 0) (pa_cons (pe_lst (pa_cons pe_int (pa_cons pe_int (pa_cons pe_int (pa_cons pe_int (pa_cons pe_int (pa_cons
        (pe_op op_add pe_int (pe_call GX hr3 (by rfl) dX.m dX.F.kp dX.b .nil pass0 (pa_cons (pv 0) (pa_cons pe_int pa_nil)))) pa_nil))))))) pa_nil))))
      (pss_one (ps_ret (pe_join pe_str (pe_lc (own := [("turn", 3)]) (g := gName 3) (tt := tYes) rfl scWord.nd (pi_range1 rfl mr (pa_cons (pv 2) pa_nil)) (blkOk_by (own := [("turn", 3)]) (N := ["draw", "letters", "many", "turn"]) (sc := defScope sWord) (by decide +kernel))
        (fun _ _ _ _ _ => pg_name (i := 3) scWord.nd rfl (Or.inl rfl)) (fun _ _ _ _ _ => pts_nil)
        (fun _ _ _ _ _ => pe_item_str (pv 1) (pe_call GX hr3 (by rfl) dX.m dX.F.kp dX.b .nil pass0 (pa_cons (pv 0) (pa_cons pe_int pa_nil))) (fun _ _ => rfl))))))), ?_⟩
    refine ⟨_, rfl, _, rfl, d, sc, _, rfl, hD, by decide, fun r0 H1 h1 h2 D1 k1 => ?_⟩
    refine ⟨_, _, rfl, rfl, (by show 6 ≤ sizeLine; decide), fun t nt => ?_⟩
    have ntd := D1.nd nt
    refine ⟨d, sc, t, _, rfl, D1.upd ntd (D1.ns nt), SqL.of upd_same, ntd, Nat.zero_lt_succ _, fun i v H2 hv D2 k2 => ?_⟩
    obtain ⟨m, rfl, m1, m8⟩ : ∃ m : Int, v = .int m ∧ 1 ≤ m ∧ m ≤ 8 := by
      match i, hv with
      | 0, hv | 1, hv | 2, hv | 3, hv | 4, hv => exact ⟨_, (Option.some.inj hv).symm, by decide, by decide⟩
      | 5, hv => exact ⟨1 + r0, (Option.some.inj hv).symm, by omega, by omega⟩
      | n + 6, hv => cases hv
    have kp2 : Kp d H H2 := k1.trans ((Kp.of (same_upd nt)).trans k2)
    refine ⟨⟨_, rfl⟩, .int m, rfl, m, rfl, by omega, by omega, fun L nL => ?_⟩
    have nLd := D2.nd nL
    have nLs := D2.ns nL
    refine lc_range (lo := 0) (n := m.toNat) (fun i H3 => ∃ zs : List Str, H3 L = some (.lst (zs.map V.str)) ∧ zs.length = i ∧ (∀ z ∈ zs, Sign z) ∧ DrawAt H3 d sc ∧ ∀ b o, b ≠ L → b ≠ d → H2 b = some o → H3 b = some o) ⟨[], upd_same, rfl, by simp, D2.upd nLd nLs, fun b o n1 _ e => by rw [upd_ne n1]; exact e⟩ ?_ ?_
    · rintro i H3 hi ⟨zs, e1, e2, e3, D3, k3⟩
      refine ⟨rfl, ?_⟩
      refine ⟨_, rfl, _, rfl, d, sc, _, rfl, D3, by decide, fun r H4 r1 r2 D4 k4 => ?_⟩
      obtain ⟨c, hc, c1, c2⟩ := lett (j := r.toNat) (by omega)
      refine ⟨_, _, c, rfl, rfl, r1, by omega, by rw [lett_len]; omega, hc, ?_⟩
      have e1' := k4.list nLd e1
      refine ⟨_, e1', by rw [List.length_map]; exact small1000 (by omega), zs ++ [⟨#[c]⟩], ?_, by simp [e2], ?_, D4.upd nLd nLs, ?_⟩
      · rw [upd_same, List.map_append]; rfl
      · intro z hz
        rcases List.mem_append.mp hz with hz | hz
        · exact e3 z hz
        · have : z = ⟨#[c]⟩ := by simpa using hz
          exact ⟨c, this, c1, c2⟩
      · intro b o n1 n2 e
        rw [upd_ne n1]
        exact k4 b o n2 (k3 b o n1 n2 e)
    · rintro H3 ⟨zs, e1, e2, e3, D3, k3⟩
      refine ⟨_, _, zs, rfl, rfl, .inl (SqL.of e1), ?_, ?_⟩
      · rw [signs_sum e3]
        show zs.length + zs.length * (PySem.Str.ofString "").length ≤ _
        have : (PySem.Str.ofString "").length = 0 := by decide +kernel
        rw [this]
        omega
      · exact q _ H3 (signs_word e3 (by omega) (by omega)) D3 (kp2.trans fun b o n2 e => k3 b o (ne_of_none e nL) n2 e)
end
end K1

set_option Elab.async false
set_option linter.all false
set_option maxRecDepth 100000
set_option maxHeartbeats 1000000
namespace K1
open PySem PySem.Spec PyProof.Rows L2
abbrev sVocab : Stmt := topS 22
theorem scVocab : FnScope ["draw", "many", "found", "turn", "word", "spare", "one"] ["draw", "many"] (defScope sVocab) := ⟨rfl, rfl, rfl, by decide +kernel, rfl, by decide +kernel, by decide +kernel⟩
def nine : List Str := ["b", "cd", "e", "fgh", "i", "jk", "l", "mno", "p"]
theorem nine_nd : nine.Nodup := by decide +kernel
theorem nine_w : ∀ z ∈ nine, IsW z := by
  have h : ∀ z ∈ nine, 1 ≤ z.length ∧ z.length ≤ 8 ∧ ∀ c ∈ z.cps.toList, 97 ≤ c ∧ c ≤ 122 := by decide +kernel
  exact fun z hz => ⟨(h z hz).1, (h z hz).2.1, (h z hz).2.2⟩
theorem inV_str (z : Str) : ∀ ws : List Str, inV (.str z) (ws.map V.str) = decide (z ∈ ws)
  | [] => by simp [inV]
  | y :: r => by
    have ih := inV_str z r
    unfold inV at ih ⊢
    rw [List.map_cons, List.any_cons, ih]
    show ((y == z) || decide (z ∈ r)) = decide (z ∈ y :: r)
    by_cases e : y = z
    · subst e
      simp
    · have e2 : ¬ z = y := fun q => e q.symm
      have e3 : (y == z) = false := by simpa using e
      rw [e3]
      simp [List.mem_cons, e2]
theorem sub_len {α : Type} [DecidableEq α] : ∀ {l m : List α}, l.Nodup → (∀ x ∈ l, x ∈ m) → l.length ≤ m.length
  | [], _, _, _ => Nat.zero_le _
  | a :: l, m, hn, h => by
    have ha : a ∈ m := h a (by simp)
    have hn' := List.nodup_cons.mp hn
    have ih := sub_len (l := l) (m := m.erase a) hn'.2 fun x hx => by
      have hne : x ≠ a := fun e => hn'.1 (e ▸ hx)
      exact (List.mem_erase_of_ne hne).mpr (h x (by simp [hx]))
    rw [List.length_erase_of_mem ha] at ih
    have hp : 0 < m.length := List.length_pos_of_mem ha
    rw [List.length_cons]
    omega
def fil (ws l : List Str) : List Str := l.filter fun z => !decide (z ∈ ws)
theorem fil_pos {ws : List Str} (h : ws.length < 9) : ∃ z r, fil ws nine = z :: r ∧ IsW z ∧ z ∉ ws := by
  cases e : fil ws nine with
  | nil =>
    have h2 : ∀ x ∈ nine, x ∈ ws := fun x hx => by
      have q := List.filter_eq_nil_iff.mp e x hx
      simpa using q
    have h3 := sub_len nine_nd h2
    exact absurd h3 (by show ¬ 9 ≤ _; omega)
  | cons z r =>
    have hz : z ∈ fil ws nine := by rw [e]; simp
    have h1 := List.mem_filter.mp hz
    exact ⟨z, r, rfl, nine_w z h1.1, by simpa using h1.2⟩
theorem fil_step {ws l : List Str} {i : Nat} {z : Str} (h : l[i]? = some z) : fil ws (l.take (i + 1)) = fil ws (l.take i) ++ (if z ∈ ws then [] else [z]) := by
  unfold fil
  rw [List.take_add_one, h, List.filter_append]
  congr 1
  by_cases e : z ∈ ws <;> simp [e]
/-- new words, none twice -/
structure Words (ws : List Str) : Prop where
  nd : ws.Nodup
  ok : ∀ z ∈ ws, IsW z
section
variable {P : Program} {w : World} {K : PySem.W.Frag} {mg : Str → Option Value} {base : Heap}
def spVocab : Sp := fun vs H Q _ => ∃ (d sc : Addr) (m : Int), vs = [.ref d, .int m] ∧ DrawAt H d sc ∧ 0 ≤ m ∧ m ≤ 8 ∧
  ∀ (L : Addr) (ws : List Str) (H' : Hp), Words ws → (ws.length : Int) = m → H L = none → H' L = some (.lst (ws.map V.str)) → DrawAt H' d sc → Kp d H H' → Q (.ref L) H'
theorem ok_vocab {f fW : Addr} {fd fdW : FuncData} (F : Fun K "_law_vocab" "_law_vocab" sVocab f fd) (dW : D K mg "_law_word" sWord ["draw"] fW fdW) (GW : FnOk P w K mg base CX0 5 fW fdW ["draw"] spWord)
    (mr : mg "range" = none) : FnOk P w K mg base CX0 6 f fd ["draw", "many"] spVocab := by
  refine F.ok scVocab (fun vs H Q E h => ?_) (fun cdv A outer s H vs Q E hr h => ?_)
  · obtain ⟨d, sc, m, rfl, _⟩ := h
    rfl
  · obtain ⟨d, sc, m, rfl, hD, m0, m8, q⟩ := h
    refine ⟨_, pss_cons (ps_set (i := 2) scVocab.nd rfl (.inr rfl) (pe_lst pa_nil))
      (pss_cons (ps_for PassesOwn.never rfl (pi_range1 rfl mr (pa_cons (pv 1) pa_nil)) (pg_name (i := 3) scVocab.nd rfl (.inl rfl))
        (pss_cons (ps_set (i := 4) scVocab.nd rfl (.inl rfl) (pe_call GW hr (by rfl) dW.m dW.F.kp dW.b .nil pass0 (pa_cons (pv 0) pa_nil)))
        (pss_cons (ps_setLc (i := 5) (own := [("one", 6)]) (g := gName 6) rfl scVocab.nd rfl rfl (sw_true rfl rfl rfl (by decide +kernel))
          (pi_tup (pe_tup (pa_cons pe_str (pa_cons pe_str (pa_cons pe_str (pa_cons pe_str (pa_cons pe_str (pa_cons pe_str (pa_cons pe_str (pa_cons pe_str (pa_cons pe_str pa_nil)))))))))))
          (blkOk_by (own := [("one", 6)]) (N := ["draw", "many", "found", "turn", "word", "spare", "one"]) (sc := defScope sVocab) (by decide +kernel))
          (fun _ _ _ _ _ => pg_name (i := 6) scVocab.nd rfl (Or.inl rfl)) (fun _ _ _ _ _ => pts_one (pt_cmpR (show OpR _ (compareOp .NotIn) (rIn K true) from op_notIn_seq) (pv 6) (pv 2) (by rfl))) (fun _ _ _ _ _ => pv 6))
        (pss_one (ps_expr (pe_bm PySem.F.plainAttrs_list PySem.F.slot_list_append PySem.F.type_list_append mt_append (pv 2)
          (pa_cons (pe_ifExp (pt_cmpR op_in_seq (pv 4) (pv 2) (by rfl)) (pe_ix ix_list (pv 5) pe_int (fun _ _ => rfl)) (pv 4)) pa_nil)))))))
      (pss_one (ps_ret (pv 2)))), ?_⟩
    refine ⟨Nat.zero_le _, fun L nL => ?_⟩
    have nLd := hD.nd nL
    have nLs := hD.ns nL
    refine ⟨_, rfl, m, rfl, by omega, by omega, ?_⟩
    refine for_range (lo := 0) (n := m.toNat) (fun i σ H3 => ∃ (v3 v4 v5 : Option V) (ws : List Str), σ = [some (.ref d), some (.int m), some (.ref L), v3, v4, v5, none] ∧ Words ws ∧ ws.length = i ∧ H3 L = some (.lst (ws.map V.str)) ∧ DrawAt H3 d sc ∧
      ∀ b o, b ≠ L → b ≠ d → H b = some o → H3 b = some o) ⟨none, none, none, [], rfl, ⟨List.nodup_nil, by simp⟩, rfl, upd_same, hD.upd nLd nLs, fun b o n1 _ e => by rw [upd_ne n1]; exact e⟩ ?_ ?_
    · rintro i σ H3 hi ⟨v3, v4, v5, ws, rfl, W, hl, e1, D3, k3⟩
      refine ⟨_, rfl, d, sc, rfl, D3, fun z H4 hz D4 k4 => ?_⟩
      have e4 := k4.list nLd e1
      refine ⟨(by show 9 ≤ sizeLine; decide), fun p np => ?_⟩
      have npL : p ≠ L := (ne_of_none e4 np).symm
      refine ⟨p, rfl, ⟨_, SqT.of upd_same⟩, fun S nS => ?_⟩
      have nSp : S ≠ p := fun e => by rw [e, upd_same] at nS; cases nS
      have nS4 : H4 S = none := by rw [upd_ne nSp] at nS; exact nS
      have nSL : S ≠ L := (ne_of_none e4 nS4).symm
      refine lc_tup (K := K) (a := p) (xs := nine.map V.str) (fun j H5 => H5 = upd (upd H4 p (.tup (nine.map V.str))) S (.lst ((fil ws (nine.take j)).map V.str))) rfl
        (fun j H5 _ e5 => by rw [e5]; exact SqT.of (by rw [upd_ne nSp.symm, upd_same])) ?_ ?_
      · rintro j x H5 hx rfl
        rw [List.getElem?_map] at hx
        cases hj : nine[j]? with
        | none => rw [hj] at hx; cases hx
        | some y =>
          rw [hj] at hx
          have ex : x = V.str y := (Option.some.inj hx).symm
          subst ex
          have eL : (upd (upd H4 p (.tup (nine.map V.str))) S (.lst ((fil ws (nine.take j)).map V.str))) L = some (.lst (ws.map V.str)) := by
            rw [upd_ne nSL.symm, upd_ne npL.symm]; exact e4
          refine ⟨rfl, _, rfl, _, rfl, L, _, rfl, .inl (SqL.of eL), rfl, ?_, _, rfl, ?_⟩
          · simp [flatV]
          · rw [if_pos rfl, inV_str]
            by_cases hm : y ∈ ws
            · simp only [hm, decide_true, Bool.not_true]
              refine iteF ?_
              rw [fil_step hj, if_pos hm, List.append_nil]
            · simp only [hm, decide_false, Bool.not_false]
              refine ⟨_, rfl, _, upd_same, ?_, ?_⟩
              · rw [List.length_map]
                refine small1000 (Nat.le_trans (List.length_filter_le _ _) (Nat.le_trans (List.length_take_le _ _) ?_))
                show j ≤ 1000
                have : j < 9 := (List.getElem?_eq_some_iff.mp hj).1
                omega
              · rw [upd_upd, fil_step hj, if_neg hm, List.map_append]
                rfl
      · rintro H5 rfl
        have et : (nine.map V.str).length = 9 := rfl
        rw [et, show nine.take 9 = nine from rfl]
        obtain ⟨y, r, ey, wy, ny⟩ := fil_pos (ws := ws) (by omega)
        have eL : (upd (upd H4 p (.tup (nine.map V.str))) S (.lst ((fil ws nine).map V.str))) L = some (.lst (ws.map V.str)) := by
          rw [upd_ne nSL.symm, upd_ne npL.symm]; exact e4
        have nSd := D4.nd nS4
        have nSs := D4.ns nS4
        have npd := D4.nd np
        have nps := D4.ns np
        refine ⟨_, rfl, .inl ⟨rfl, _, SqL.of eL⟩, ?_⟩
        refine ⟨_, rfl, _, rfl, L, _, rfl, .inl (SqL.of eL), rfl, by simp [flatV], _, rfl, ?_⟩
        rw [if_neg Bool.false_ne_true, inV_str]
        have fin : ∀ z' : Str, IsW z' → z' ∉ ws → ∃ l xs y', V.ref L = .ref l ∧ ([V.str z'] : List V) = [y'] ∧ (upd (upd H4 p (.tup (nine.map V.str))) S (.lst ((fil ws nine).map V.str))) l = some (.lst xs) ∧ xs.length < sizeLine ∧
            ∃ (v3' v4' v5' : Option V) (ws' : List Str), ([some (.ref d), some (.int m), some (.ref L), some (V.int (0 + (i : Int))), some (.str z), some (.ref S), none] : List (Option V)) = [some (.ref d), some (.int m), some (.ref L), v3', v4', v5', none] ∧ Words ws' ∧ ws'.length = i + 1 ∧
              (upd (upd (upd H4 p (.tup (nine.map V.str))) S (.lst ((fil ws nine).map V.str))) l (.lst (xs ++ [y']))) L = some (.lst (ws'.map V.str)) ∧ DrawAt (upd (upd (upd H4 p (.tup (nine.map V.str))) S (.lst ((fil ws nine).map V.str))) l (.lst (xs ++ [y']))) d sc ∧
              ∀ b o, b ≠ L → b ≠ d → H b = some o → (upd (upd (upd H4 p (.tup (nine.map V.str))) S (.lst ((fil ws nine).map V.str))) l (.lst (xs ++ [y']))) b = some o := fun z' w' n' => by
          refine ⟨L, _, _, rfl, rfl, eL, ?_, _, _, _, ws ++ [z'], rfl, ⟨?_, ?_⟩, by simp [hl], ?_, ?_, ?_⟩
          · rw [List.length_map]; exact small1000 (by omega)
          · exact List.nodup_append.mpr ⟨W.nd, by simp, fun a ha b hb => by
              have : b = z' := by simpa using hb
              rw [this]; exact fun e => n' (e ▸ ha)⟩
          · intro a ha
            rcases List.mem_append.mp ha with ha | ha
            · exact W.ok a ha
            · have : a = z' := by simpa using ha
              rw [this]; exact w'
          · rw [upd_same, List.map_append]; rfl
          · exact ((D4.upd npd nps).upd nSd nSs).upd nLd nLs
          · intro b o n1 n2 e
            have e4' := k4 b o n2 (k3 b o n1 n2 e)
            rw [upd_ne n1, upd_ne (ne_of_none e4' nS4), upd_ne (ne_of_none e4' np)]
            exact e4'
        by_cases hm : z ∈ ws
        · simp only [hm, decide_true]
          refine ⟨_, rfl, S, _, _, V.str y, rfl, rfl, SqL.of upd_same, at_of (j := 0) rfl (by rw [ey]; rfl), ?_⟩
          exact fin y wy ny
        · simp only [hm, decide_false]
          refine iteF ?_
          exact ⟨_, rfl, fin z hz hm⟩
    · rintro σ H3 ⟨v3, v4, v5, ws, rfl, W, hl, e1, D3, k3⟩
      refine ⟨_, rfl, ?_⟩
      exact q L ws H3 W (by omega) nL e1 D3 fun b o n e => k3 b o (ne_of_none e nL) n e
end
end K1

set_option Elab.async false
set_option linter.all false
set_option maxRecDepth 100000
set_option maxHeartbeats 1000000
namespace K1
open PySem PySem.Spec PyProof.Rows L2
abbrev sPartners : Stmt := topS 23
abbrev sBlocks : Stmt := topS 24
abbrev sSheet : Stmt := topS 25
theorem scPartners : FnScope ["draw", "many", "words", "found", "at", "one", "two"] ["draw", "many"] (defScope sPartners) := ⟨rfl, rfl, rfl, by decide +kernel, rfl, by decide +kernel, by decide +kernel⟩
theorem scBlocks : FnScope ["draw", "partners", "many", "top", "found", "kinds", "name", "ends", "turn"] ["draw", "partners", "many", "top"] (defScope sBlocks) := ⟨rfl, rfl, rfl, by decide +kernel, rfl, by decide +kernel, by decide +kernel⟩
theorem scSheet : FnScope ["draw", "joints", "many", "top", "partners"] ["draw", "joints", "many", "top"] (defScope sSheet) := ⟨rfl, rfl, rfl, by decide +kernel, rfl, by decide +kernel, by decide +kernel⟩
/-- a dict of texts -/
def pk (ps : List (Str × Str)) : List (Key × V) := ps.map fun p => (Sum.inr p.1, V.str p.2)
/-- what stands for a text -/
def look {β : Type} (ps : List (Str × β)) (a : Str) : Option β := (ps.find? fun p => decide (p.1 = a)).map (·.2)
theorem valV_map {β : Type} (g : β → V) : ∀ (ps : List (Str × β)) (a : Str), valV (ps.map fun p => ((Sum.inr p.1 : Key), g p.2)) (Sum.inr a) = (look ps a).map g
  | [], a => rfl
  | p :: r, a => by
    have ih := valV_map g r a
    unfold valV look at ih ⊢
    rw [List.map_cons, List.find?_cons, List.find?_cons]
    by_cases e : p.1 = a
    · have e1 : decide ((Sum.inr p.1 : Key) = Sum.inr a) = true := decide_eq_true (by rw [e])
      rw [e1, decide_eq_true e]
      rfl
    · have e1 : decide ((Sum.inr p.1 : Key) = Sum.inr a) = false := decide_eq_false fun q => e (Sum.inr.inj q)
      rw [e1, decide_eq_false e]
      exact ih
theorem look_none {β : Type} : ∀ {ps : List (Str × β)} {a : Str}, a ∉ ps.map (·.1) → look ps a = none
  | [], _, _ => rfl
  | p :: r, a, h => by
    have h2 : p.1 ≠ a := fun e => h (by simp [e])
    have ih := look_none (ps := r) (a := a) fun q => h (by rw [List.map_cons]; exact List.mem_cons_of_mem _ q)
    unfold look at ih ⊢
    rw [List.find?_cons, decide_eq_false h2]
    exact ih
theorem look_some {β : Type} : ∀ {ps : List (Str × β)} {p : Str × β}, (ps.map (·.1)).Nodup → p ∈ ps → look ps p.1 = some p.2
  | [], _, _, h => by cases h
  | q :: r, p, hn, h => by
    rw [List.map_cons, List.nodup_cons] at hn
    rcases List.mem_cons.mp h with e | e
    · subst e
      unfold look
      rw [List.find?_cons, decide_eq_true rfl]
      rfl
    · have h2 : q.1 ≠ p.1 := fun z => hn.1 (by rw [z]; exact List.mem_map_of_mem e)
      have ih := look_some hn.2 e
      unfold look at ih ⊢
      rw [List.find?_cons, decide_eq_false h2]
      exact ih
theorem look_mem {β : Type} : ∀ {ps : List (Str × β)} {a : Str} {b : β}, look ps a = some b → (a, b) ∈ ps
  | [], _, _, h => by cases h
  | p :: r, a, b, h => by
    unfold look at h
    rw [List.find?_cons] at h
    by_cases e : p.1 = a
    · rw [decide_eq_true e] at h
      have e2 : p.2 = b := Option.some.inj h
      rw [← e, ← e2]
      exact List.mem_cons_self
    · rw [decide_eq_false e] at h
      exact List.mem_cons_of_mem _ (look_mem h)
theorem put_map {β : Type} (g : β → V) {ps : List (Str × β)} {a : Str} (b : β) (h : a ∉ ps.map (·.1)) : putK (ps.map fun p => ((Sum.inr p.1 : Key), g p.2)) (Sum.inr a) (g b) = (ps ++ [(a, b)]).map fun p => ((Sum.inr p.1 : Key), g p.2) := by
  rw [putK_new _ (by rw [valV_map, look_none h]; rfl), List.map_append]
  rfl
theorem nd_take {α : Type} {l : List α} (hn : l.Nodup) {j : Nat} {x : α} (h : l[j]? = some x) : x ∉ l.take j := fun hm => by
  obtain ⟨i, hi, e0⟩ := List.mem_iff_getElem.mp hm
  have e : (l.take j)[i]? = some x := by rw [List.getElem?_eq_getElem hi, e0]
  have hi2 : i < j := by
    rw [List.length_take] at hi
    omega
  have e2 : l[i]? = some x := by
    rw [List.getElem?_take, if_pos hi2] at e
    exact e
  have := nd_ix hn e2 h
  omega
/-- kinds and their partners -/
structure PartOk (ps : List (Str × Str)) : Prop where
  nd : (ps.map (·.1)).Nodup
  wd : ∀ p ∈ ps, IsW p.1
  sym : ∀ p ∈ ps, (p.2, p.1) ∈ ps
section
variable {P : Program} {w : World} {K : PySem.W.Frag} {mg : Str → Option Value} {base : Heap}
def spPartners : Sp := fun vs H Q _ => ∃ (d sc : Addr) (m : Int), vs = [.ref d, .int m] ∧ DrawAt H d sc ∧ 1 ≤ m ∧ m ≤ 4 ∧
  ∀ (D : Addr) (ps : List (Str × Str)) (H' : Hp), PartOk ps → ps ≠ [] → ps.length ≤ 8 → H D = none → H' D = some (.dK (pk ps)) → DrawAt H' d sc → Kp d H H' → Q (.ref D) H'
theorem ok_partners {f fV fX : Addr} {fd fdV fdX : FuncData} (F : Fun K "_law_partners" "_law_partners" sPartners f fd) (dV : D K mg "_law_vocab" sVocab ["draw", "many"] fV fdV) (GV : FnOk P w K mg base CX0 6 fV fdV ["draw", "many"] spVocab)
    (dX : D K mg "_law_next" sNext ["draw", "bound"] fX fdX) (GX : FnOk P w K mg base CX0 3 fX fdX ["draw", "bound"] spNext) (mr : mg "range" = none) : FnOk P w K mg base CX0 7 f fd ["draw", "many"] spPartners := by
  refine F.ok scPartners (fun vs H Q E h => ?_) (fun cdv A outer s H vs Q E hr h => ?_)
  · obtain ⟨d, sc, m, rfl, _⟩ := h
    rfl
  · obtain ⟨d, sc, m, rfl, hD, m1, m4, q⟩ := h
    have hr3 : Room 3 _ := hr.mono (by decide)
    have hu := hu_of hr
    refine ⟨_, pss_cons (ps_par (i := 2) (j := 3) rfl scPartners.nd rfl rfl (by decide) rfl rfl (pa_cons (pe_call GV hr (by rfl) dV.m dV.F.kp dV.b .nil pass0 (pa_cons (pv 0) (pa_cons (pe_op op_mul pe_int (pv 1)) pa_nil))) (pa_cons pe_dnewK pa_nil)) (by rfl))
      (pss_cons (ps_for PassesOwn.never rfl (pi_range1 rfl mr (pa_cons (pv 1) pa_nil)) (pg_name (i := 4) scPartners.nd rfl (.inl rfl))
        (pss_cons (ps_par (i := 5) (j := 6) rfl scPartners.nd rfl rfl (by decide) rfl rfl (pa_cons (pe_ix ix_list (pv 2) (pe_op op_mul pe_int (pv 4)) (fun _ _ => rfl)) (pa_cons (pe_ix ix_list (pv 2) (pe_op op_add (pe_op op_mul pe_int (pv 4)) pe_int) (fun _ _ => rfl)) pa_nil)) (by rfl))
        (pss_one (ps_if (pt_cmpR op_eq (pe_call GX hr3 (by rfl) dX.m dX.F.kp dX.b .nil pass0 (pa_cons (pv 0) (pa_cons pe_int pa_nil))) pe_int (nomark _))
          (pss_one (ps_dput hu (pv 3) (pv 5) (pv 5) rfl))
          (pss_cons (ps_dput hu (pv 3) (pv 5) (pv 6) rfl) (pss_one (ps_dput hu (pv 3) (pv 6) (pv 5) rfl)))))))
      (pss_one (ps_ret (pv 3)))), ?_⟩
    refine ⟨_, rfl, _, rfl, _, _, rfl, rfl, .inl ⟨by decide, by decide⟩, d, sc, _, rfl, hD, by omega, by omega, fun L ws H1 W hl nL e1 D1 k1 => ?_⟩
    intro B nB
    have nLd := hD.nd nL
    have nBd := D1.nd nB
    have nBs := D1.ns nB
    have nBL : B ≠ L := (ne_of_none e1 nB).symm
    refine ⟨_, _, rfl, ?_⟩
    refine ⟨_, rfl, m, rfl, by omega, by omega, ?_⟩
    refine for_range (lo := 0) (n := m.toNat) (fun i σ H3 => ∃ (v4 v5 v6 : Option V) (ps : List (Str × Str)), σ = [some (.ref d), some (.int m), some (.ref L), some (.ref B), v4, v5, v6] ∧ PartOk ps ∧ (∀ p ∈ ps, p.1 ∈ ws.take (2 * i)) ∧ ps.length ≤ 2 * i ∧ (0 < i → ps ≠ []) ∧
      H3 B = some (.dK (pk ps)) ∧ DrawAt H3 d sc ∧ ∀ b o, b ≠ B → b ≠ d → H1 b = some o → H3 b = some o) ⟨none, none, none, [], rfl, ⟨List.nodup_nil, by simp, by simp⟩, by simp, Nat.le_refl _, by simp, upd_same, D1.upd nBd nBs, fun b o n1 _ e => by rw [upd_ne n1]; exact e⟩ ?_ ?_
    · rintro i σ H3 hi ⟨v4, v5, v6, ps, rfl, PO, sub, hlen, hne, eB, D3, k3⟩
      have hi1 : 2 * i < ws.length := by omega
      have hi2 : 2 * i + 1 < ws.length := by omega
      have g1 : ws[2 * i]? = some ws[2 * i] := List.getElem?_eq_getElem hi1
      have g2 : ws[2 * i + 1]? = some ws[2 * i + 1] := List.getElem?_eq_getElem hi2
      have w1 : IsW ws[2 * i] := W.ok _ (List.getElem_mem hi1)
      have w2 : IsW ws[2 * i + 1] := W.ok _ (List.getElem_mem hi2)
      have n1 := nd_take W.nd g1
      have n2 := nd_take W.nd g2
      have t2 : ws.take (2 * i + 1) = ws.take (2 * i) ++ [ws[2 * i]] := by rw [List.take_add_one, g1]; rfl
      have t3 : ws.take (2 * (i + 1)) = ws.take (2 * i) ++ [ws[2 * i]] ++ [ws[2 * i + 1]] := by
        rw [show 2 * (i + 1) = 2 * i + 1 + 1 by omega, List.take_add_one, g2, t2]; rfl
      generalize ws[2 * i] = x at *
      generalize ws[2 * i + 1] = y at *
      rw [t2] at n2
      have nx : x ∉ ps.map (·.1) := fun h => by
        obtain ⟨p, hp, e⟩ := List.mem_map.mp h
        exact n1 (e ▸ sub p hp)
      have ny : y ∉ ps.map (·.1) := fun h => by
        obtain ⟨p, hp, e⟩ := List.mem_map.mp h
        exact n2 (List.mem_append_left _ (e ▸ sub p hp))
      have nyx : y ≠ x := fun e => n2 (by rw [e]; simp)
      have eL := k3 L _ nBL.symm nLd e1
      have a1 : atI (ws.map V.str) (2 * (0 + (i : Int))) = some (V.str x) := at_of (j := 2 * i) (by omega) (by rw [List.getElem?_map, g1]; rfl)
      have a2 : atI (ws.map V.str) (2 * (0 + (i : Int)) + 1) = some (V.str y) := at_of (j := 2 * i + 1) (by omega) (by rw [List.getElem?_map, g2]; rfl)
      refine ⟨_, rfl, _, rfl, _, _, rfl, rfl, .inl ⟨by decide, by decide⟩, L, _, _, _, rfl, rfl, SqL.of eL, a1, _, rfl, _, rfl, _, _, rfl, rfl, .inl ⟨by decide, by decide⟩, _, _, rfl, rfl, L, _, _, _, rfl, rfl, SqL.of eL, a2, _, _, rfl, ?_⟩
      refine ⟨_, rfl, d, sc, _, rfl, D3, by decide, fun r H4 r1 r2 D4 k4 => ⟨rfl, _, rfl, ?_⟩⟩
      have eB4 := k4 B _ nBd eB
      refine ite2 (fun _ => ?_) (fun _ => ?_)
      · refine ⟨_, rfl, _, rfl, _, rfl, B, _, rfl, DPut.k (k := Sum.inr x) eB4 (by unfold pk; rw [List.length_map]; exact small1000 (by omega)), ?_⟩
        refine ⟨_, _, _, ps ++ [(x, x)], rfl, ⟨?_, ?_, ?_⟩, ?_, ?_, by simp, ?_, D4.upd nBd nBs, ?_⟩
        · rw [List.map_append]
          exact List.nodup_append.mpr ⟨PO.nd, by simp, fun a ha b hb => by
            have : b = x := by simpa using hb
            rw [this]; exact fun e => nx (e ▸ ha)⟩
        · intro p hp
          rcases List.mem_append.mp hp with hp | hp
          · exact PO.wd p hp
          · have : p = (x, x) := by simpa using hp
            rw [this]; exact w1
        · intro p hp
          rcases List.mem_append.mp hp with hp | hp
          · exact List.mem_append_left _ (PO.sym p hp)
          · have : p = (x, x) := by simpa using hp
            rw [this]; exact List.mem_append_right _ (by simp)
        · intro p hp
          rw [t3]
          rcases List.mem_append.mp hp with hp | hp
          · exact List.mem_append_left _ (List.mem_append_left _ (sub p hp))
          · have : p = (x, x) := by simpa using hp
            rw [this]; exact List.mem_append_left _ (List.mem_append_right _ (by simp))
        · rw [List.length_append]; simp; omega
        · rw [upd_same]
          exact congrArg (fun l => some (HO.dK l)) (put_map V.str x nx)
        · intro b o n1 n2 e
          rw [upd_ne n1]
          exact k4 b o n2 (k3 b o n1 n2 e)
      · have hz : (pk ps).length < sizeLine := by unfold pk; rw [List.length_map]; exact small1000 (by omega)
        have p1 : putK (pk ps) (Sum.inr x) (V.str y) = pk (ps ++ [(x, y)]) := put_map V.str y nx
        have ny2 : y ∉ (ps ++ [(x, y)]).map (·.1) := by
          rw [List.map_append, List.mem_append]
          rintro (h | h)
          · exact ny h
          · exact nyx (by simpa using h)
        have p2 : putK (pk (ps ++ [(x, y)])) (Sum.inr y) (V.str x) = pk (ps ++ [(x, y)] ++ [(y, x)]) := put_map V.str x ny2
        refine ⟨_, rfl, _, rfl, _, rfl, B, _, rfl, DPut.k (k := Sum.inr x) eB4 hz, ?_⟩
        rw [p1]
        refine ⟨_, rfl, _, rfl, _, rfl, B, _, rfl, DPut.k (k := Sum.inr y) upd_same (by unfold pk; rw [List.length_map, List.length_append]; exact small1000 (by simp; omega)), ?_⟩
        rw [p2, upd_upd]
        refine ⟨_, _, _, ps ++ [(x, y)] ++ [(y, x)], rfl, ⟨?_, ?_, ?_⟩, ?_, ?_, by simp, upd_same, D4.upd nBd nBs, ?_⟩
        · rw [List.map_append]
          refine List.nodup_append.mpr ⟨?_, by simp, fun a ha b hb => by
            have : b = y := by simpa using hb
            rw [this]; exact fun e => ny2 (e ▸ ha)⟩
          rw [List.map_append]
          exact List.nodup_append.mpr ⟨PO.nd, by simp, fun a ha b hb => by
            have : b = x := by simpa using hb
            rw [this]; exact fun e => nx (e ▸ ha)⟩
        · intro p hp
          rcases List.mem_append.mp hp with hp | hp
          · rcases List.mem_append.mp hp with hp | hp
            · exact PO.wd p hp
            · have : p = (x, y) := by simpa using hp
              rw [this]; exact w1
          · have : p = (y, x) := by simpa using hp
            rw [this]; exact w2
        · intro p hp
          rcases List.mem_append.mp hp with hp | hp
          · rcases List.mem_append.mp hp with hp | hp
            · exact List.mem_append_left _ (List.mem_append_left _ (PO.sym p hp))
            · have : p = (x, y) := by simpa using hp
              rw [this]; exact List.mem_append_right _ (by simp)
          · have : p = (y, x) := by simpa using hp
            rw [this]; exact List.mem_append_left _ (List.mem_append_right _ (by simp))
        · intro p hp
          rw [t3]
          rcases List.mem_append.mp hp with hp | hp
          · rcases List.mem_append.mp hp with hp | hp
            · exact List.mem_append_left _ (List.mem_append_left _ (sub p hp))
            · have : p = (x, y) := by simpa using hp
              rw [this]; exact List.mem_append_left _ (List.mem_append_right _ (by simp))
          · have : p = (y, x) := by simpa using hp
            rw [this]; exact List.mem_append_right _ (by simp)
        · rw [List.length_append, List.length_append]; simp; omega
        · intro b o n1 n2 e
          rw [upd_ne n1]
          exact k4 b o n2 (k3 b o n1 n2 e)
    · rintro σ H3 ⟨v4, v5, v6, ps, rfl, PO, sub, hlen, hne, eB, D3, k3⟩
      refine ⟨_, rfl, ?_⟩
      have nB0 : H B = none := k1.free nBd nB
      exact q B ps H3 PO (hne (by omega)) (by omega) nB0 eB D3 fun b o n e => k3 b o (ne_of_none e nB0) n (k1 b o n e)
end
end K1

set_option Elab.async false
set_option linter.all false
set_option maxRecDepth 100000
set_option maxHeartbeats 1000000
namespace K1
open PySem PySem.Spec PyProof.Rows L2
/-- a dict of blocks: names to tuples -/
def bk (bs : List (Str × Addr)) : List (Key × V) := bs.map fun p => (Sum.inr p.1, V.ref p.2)
/-- the ends of a block -/
def Ends (H : Hp) (ps : List (Str × Str)) (t : Addr) (es : List Str) : Prop := H t = some (.tup (es.map V.str)) ∧ 1 ≤ es.length ∧ es.length ≤ 4 ∧ ∀ e ∈ es, e ∈ ps.map (·.1)
structure BlkOk (H : Hp) (ps : List (Str × Str)) (bs : List (Str × Addr)) : Prop where
  nd : (bs.map (·.1)).Nodup
  wd : ∀ p ∈ bs, IsW p.1
  tup : ∀ p ∈ bs, ∃ es, Ends H ps p.2 es
theorem BlkOk.same {H H' : Hp} {ps : List (Str × Str)} {bs : List (Str × Addr)} (h : BlkOk H ps bs) (k : ∀ b xs, H b = some (.tup xs) → H' b = some (.tup xs)) : BlkOk H' ps bs :=
  ⟨h.nd, h.wd, fun p hp => by
    obtain ⟨es, e1, e2⟩ := h.tup p hp
    exact ⟨es, k _ _ e1, e2⟩⟩
/-- tuples stay -/
def TupK (H H' : Hp) : Prop := ∀ b xs, H b = some (.tup xs) → H' b = some (.tup xs)
theorem Kp.tup {d sc : Addr} {H H' : Hp} (k : Kp d H H') (h : DrawAt H d sc) : TupK H H' := fun b xs e => k b _ (fun z => by
  obtain ⟨ns, n, h1, _⟩ := h.ex
  rw [z, h1] at e
  cases e) e
section
variable {P : Program} {w : World} {K : PySem.W.Frag} {mg : Str → Option Value} {base : Heap}
def spBlocks : Sp := fun vs H Q _ => ∃ (d sc pd : Addr) (m t : Int) (ps : List (Str × Str)), vs = [.ref d, .ref pd, .int m, .int t] ∧ DrawAt H d sc ∧ H pd = some (.dK (pk ps)) ∧ ps ≠ [] ∧ ps.length ≤ 8 ∧ 1 ≤ m ∧ m ≤ 8 ∧ 1 ≤ t ∧ t ≤ 4 ∧
  ∀ (B : Addr) (bs : List (Str × Addr)) (H' : Hp), BlkOk H' ps bs → bs ≠ [] → bs.length ≤ 8 → H B = none → H' B = some (.dK (bk bs)) → DrawAt H' d sc → Kp d H H' → Q (.ref B) H'
theorem ok_blocks {f fV fX fP : Addr} {fd fdV fdX fdP : FuncData} (F : Fun K "_law_blocks" "_law_blocks" sBlocks f fd) (dV : D K mg "_law_vocab" sVocab ["draw", "many"] fV fdV) (GV : FnOk P w K mg base CX0 6 fV fdV ["draw", "many"] spVocab)
    (dX : D K mg "_law_next" sNext ["draw", "bound"] fX fdX) (GX : FnOk P w K mg base CX0 3 fX fdX ["draw", "bound"] spNext) (dP : D K mg "_law_pick" sPick ["draw", "things"] fP fdP) (GP : FnOk P w K mg base CX0 4 fP fdP ["draw", "things"] (spPick K))
    (mr : mg "range" = none) (ml : mg "list" = none) (mt : mg "tuple" = none) : FnOk P w K mg base CX0 7 f fd ["draw", "partners", "many", "top"] spBlocks := by
  refine F.ok scBlocks (fun vs H Q E h => ?_) (fun cdv A outer s H vs Q E hr h => ?_)
  · obtain ⟨d, sc, pd, m, t, ps, rfl, _⟩ := h
    rfl
  · obtain ⟨d, sc, pd, m, t, ps, rfl, hD, hpd, hne, hpl, m1, m8, t1, t4, q⟩ := h
    have hr3 : Room 3 _ := hr.mono (by decide)
    have hr4 : Room 4 _ := hr.mono (by decide)
    have hu := hu_of hr
    refine ⟨_, pss_cons (ps_asg (pe_tup (pa_cons pe_dnewK (pa_cons (pe_callTy (call_listD rfl) (by rfl) ml (by decide +kernel) (pa_cons (pv 1) pa_nil)) pa_nil))) (pg_tup rfl (pgs_cons (pg_name (i := 4) scBlocks.nd rfl (.inl rfl)) (pgs_cons (pg_name (i := 5) scBlocks.nd rfl (.inr rfl)) pgs_nil))))
      (pss_cons (ps_for PassesOwn.never rfl (pi_list (pe_call GV hr (by rfl) dV.m dV.F.kp dV.b .nil pass0 (pa_cons (pv 0) (pa_cons (pv 2) pa_nil)))) (pg_name (i := 6) scBlocks.nd rfl (.inl rfl))
        (pss_cons (ps_set (i := 7) scBlocks.nd rfl (.inl rfl) (pe_op op_add pe_int (pe_call GX hr3 (by rfl) dX.m dX.F.kp dX.b .nil pass0 (pa_cons (pv 0) (pa_cons (pv 3) pa_nil)))))
        (pss_one (ps_dput hu (pv 4) (pv 6) (pe_callTy call_tuple_of (by rfl) mt (by decide +kernel) (pa_cons
          (pe_lc (own := [("turn", 8)]) (g := gName 8) (tt := tYes) rfl scBlocks.nd (pi_range1 rfl mr (pa_cons (pv 7) pa_nil)) (blkOk_by (own := [("turn", 8)]) (N := ["draw", "partners", "many", "top", "found", "kinds", "name", "ends", "turn"]) (sc := defScope sBlocks) (by decide +kernel))
            (fun _ _ _ _ _ => pg_name (i := 8) scBlocks.nd rfl (Or.inl rfl)) (fun _ _ _ _ _ => pts_nil)
            (fun _ _ _ _ _ => pe_call GP hr4 (by rfl) dP.m dP.F.kp dP.b .nil pass0 (pa_cons (pv 0) (pa_cons (pv 5) pa_nil)))) pa_nil)) rfl))))
      (pss_one (ps_ret (pv 4)))), ?_⟩
    intro B nB
    have nBd := hD.nd nB
    have nBs := hD.ns nB
    have nBp : B ≠ pd := (ne_of_none hpd nB).symm
    refine ⟨_, rfl, pd, pk ps, rfl, .inl (by rw [upd_ne nBp.symm]; exact hpd), fun L nL => ?_⟩
    have nLB : L ≠ B := fun e => by rw [e, upd_same] at nL; cases nL
    have nL0 : H L = none := by rw [upd_ne nLB] at nL; exact nL
    have nLd := hD.nd nL0
    have nLs := hD.ns nL0
    refine ⟨(by show 2 ≤ sizeLine; decide), fun T nT => ?_⟩
    have nTL : T ≠ L := fun e => by rw [e, upd_same] at nT; cases nT
    have nTB : T ≠ B := fun e => by rw [e, upd_ne nLB.symm, upd_same] at nT; cases nT
    have nT0 : H T = none := by rw [upd_ne nTL, upd_ne nTB] at nT; exact nT
    refine ⟨T, _, rfl, SqT.of upd_same, rfl, _, _, rfl, _, _, rfl, rfl, ?_⟩
    have eks : (pk ps).map (fun kv => kV kv.1) = (ps.map (·.1)).map V.str := by
      unfold pk
      rw [List.map_map, List.map_map]
      rfl
    rw [eks]
    have D0 : DrawAt (upd (upd (upd H B (.dK [])) L (.lst ((ps.map (·.1)).map V.str))) T (.tup [V.ref B, V.ref L])) d sc := ((hD.upd nBd nBs).upd nLd nLs).upd (hD.nd nT0) (hD.ns nT0)
    have eB0 : (upd (upd (upd H B (.dK [])) L (.lst ((ps.map (·.1)).map V.str))) T (.tup [V.ref B, V.ref L])) B = some (.dK []) := by rw [upd_ne nTB.symm, upd_ne nLB.symm, upd_same]
    have eL0 : (upd (upd (upd H B (.dK [])) L (.lst ((ps.map (·.1)).map V.str))) T (.tup [V.ref B, V.ref L])) L = some (.lst ((ps.map (·.1)).map V.str)) := by rw [upd_ne nTL.symm, upd_same]
    have k0 : ∀ b o, H b = some o → (upd (upd (upd H B (.dK [])) L (.lst ((ps.map (·.1)).map V.str))) T (.tup [V.ref B, V.ref L])) b = some o := fun b o e => by
      rw [upd_ne (ne_of_none e nT0), upd_ne (ne_of_none e nL0), upd_ne (ne_of_none e nB)]; exact e
    generalize (upd (upd (upd H B (.dK [])) L (.lst ((ps.map (·.1)).map V.str))) T (.tup [V.ref B, V.ref L])) = H0 at D0 eB0 eL0 k0
    refine ⟨_, rfl, _, rfl, d, sc, m, rfl, D0, by omega, m8, fun N ws H1 W hl nN eN D1 k1 => ?_⟩
    have nNd := D0.nd nN
    have nNB : N ≠ B := (ne_of_none eB0 nN).symm
    have eB1 := k1 _ _ nBd eB0
    have eL1 := k1 _ _ nLd eL0
    refine ⟨N, rfl, ⟨_, SqL.of eN⟩, for_list (K := K) (a := N) (xs := ws.map V.str) (fun i σ H3 => ∃ (v6 v7 : Option V) (bs : List (Str × Addr)), σ = [some (.ref d), some (.ref pd), some (.int m), some (.int t), some (.ref B), some (.ref L), v6, v7, none] ∧
      BlkOk H3 ps bs ∧ bs.length = i ∧ (∀ p ∈ bs, p.1 ∈ ws.take i) ∧ H3 B = some (.dK (bk bs)) ∧ DrawAt H3 d sc ∧ ∀ b o, b ≠ B → b ≠ d → H1 b = some o → H3 b = some o)
      ⟨none, none, [], rfl, ⟨List.nodup_nil, by simp, by simp⟩, rfl, by simp, eB1, D1, fun b o _ _ e => e⟩ (fun i σ H3 _ ⟨_, _, _, _, _, _, _, _, _, k3⟩ => SqL.of (k3 N _ nNB nNd eN)) ?_ ?_⟩
    · rintro i x σ H3 hx ⟨v6, v7, bs, rfl, BO, hb, sub, eB, D3, k3⟩
      rw [List.getElem?_map] at hx
      cases hj : ws[i]? with
      | none => rw [hj] at hx; cases hx
      | some y =>
        rw [hj] at hx
        have ex : x = V.str y := (Option.some.inj hx).symm
        subst ex
        have hi : i < ws.length := (List.getElem?_eq_some_iff.mp hj).1
        have ny := nd_take W.nd hj
        have nyb : y ∉ bs.map (·.1) := fun h => by
          obtain ⟨p, hp, e⟩ := List.mem_map.mp h
          exact ny (e ▸ sub p hp)
        have hy : IsW y := W.ok y (List.mem_of_getElem? hj)
        refine ⟨_, rfl, _, rfl, d, sc, t, rfl, D3, by omega, fun r H4 r1 r2 D4 k4 => ?_⟩
        refine ⟨_, _, rfl, rfl, ?_⟩
        have eB4 := k4 B _ nBd eB
        have eL4 := k4 L _ nLd (k3 L _ nLB nLd eL1)
        refine ⟨_, rfl, 1 + r, rfl, by omega, by omega, fun S nS => ?_⟩
        have nSd := D4.nd nS
        have nSs := D4.ns nS
        have nSB : S ≠ B := (ne_of_none eB4 nS).symm
        have nSL : S ≠ L := (ne_of_none eL4 nS).symm
        refine lc_range (lo := 0) (n := (1 + r).toNat) (fun j H5 => ∃ es : List Str, H5 S = some (.lst (es.map V.str)) ∧ es.length = j ∧ (∀ e ∈ es, e ∈ ps.map (·.1)) ∧ DrawAt H5 d sc ∧ ∀ b o, b ≠ S → b ≠ d → H4 b = some o → H5 b = some o)
          ⟨[], upd_same, rfl, by simp, D4.upd nSd nSs, fun b o n1 _ e => by rw [upd_ne n1]; exact e⟩ ?_ ?_
        · rintro j H5 hj2 ⟨es, e1, e2, e3, D5, k5⟩
          refine ⟨rfl, ?_⟩
          refine ⟨_, rfl, _, rfl, d, sc, L, _, rfl, D5, SqL.of (k5 L _ nSL.symm nLd eL4), nLd, by rw [List.length_map, List.length_map]; exact List.length_pos_iff.mpr hne, fun l v H6 hv D6 k6 => ?_⟩
          obtain ⟨u, hu2, rfl⟩ : ∃ u, u ∈ ps.map (·.1) ∧ v = V.str u := by
            rw [List.getElem?_map] at hv
            cases hl2 : (ps.map (·.1))[l]? with
            | none => rw [hl2] at hv; cases hv
            | some u =>
              rw [hl2] at hv
              exact ⟨u, List.mem_of_getElem? hl2, (Option.some.inj hv).symm⟩
          refine ⟨_, k6 S _ nSd e1, by rw [List.length_map]; exact small1000 (by omega), es ++ [u], ?_, by simp [e2], ?_, D6.upd nSd nSs, ?_⟩
          · rw [upd_same, List.map_append]; rfl
          · intro e he
            rcases List.mem_append.mp he with he | he
            · exact e3 e he
            · have : e = u := by simpa using he
              rw [this]; exact hu2
          · intro b o n1 n2 e
            rw [upd_ne n1]
            exact k6 b o n2 (k5 b o n1 n2 e)
        · rintro H5 ⟨es, e1, e2, e3, D5, k5⟩
          refine ⟨S, _, rfl, .inl ⟨SqL.of e1, fun U nU => ?_⟩⟩
          have nUd := D5.nd nU
          have nUs := D5.ns nU
          have eB5 := k5 B _ nSB.symm nBd eB4
          have nUB : U ≠ B := (ne_of_none eB5 nU).symm
          refine ⟨_, rfl, _, rfl, B, _, rfl, DPut.k (k := Sum.inr y) (by rw [upd_ne nUB.symm]; exact eB5) (by unfold bk; rw [List.length_map]; exact small1000 (by omega)), ?_⟩
          have eP : putK (bk bs) (Sum.inr y) (V.ref U) = bk (bs ++ [(y, U)]) := put_map V.ref U nyb
          rw [eP]
          have kf : ∀ b o, b ≠ B → b ≠ d → H3 b = some o → (upd (upd H5 U (.tup (es.map V.str))) B (.dK (bk (bs ++ [(y, U)])))) b = some o := fun b o n1 n2 e => by
            have e4 := k4 b o n2 e
            have e5 := k5 b o (ne_of_none e4 nS) n2 e4
            rw [upd_ne n1, upd_ne (ne_of_none e5 nU)]
            exact e5
          have tf : TupK H3 (upd (upd H5 U (.tup (es.map V.str))) B (.dK (bk (bs ++ [(y, U)])))) := fun b xs e => kf b _ (fun z => by rw [z, eB] at e; cases e) (fun z => by
            obtain ⟨_, _, h1, _⟩ := D3.ex
            rw [z, h1] at e; cases e) e
          refine ⟨_, _, bs ++ [(y, U)], rfl, ⟨?_, ?_, ?_⟩, by simp [hb], ?_, upd_same, (D5.upd nUd nUs).upd nBd nBs, fun b o n1 n2 e => kf b o n1 n2 (k3 b o n1 n2 e)⟩
          · rw [List.map_append]
            exact List.nodup_append.mpr ⟨BO.nd, by simp, fun a ha b hb => by
              have : b = y := by simpa using hb
              rw [this]; exact fun e => nyb (e ▸ ha)⟩
          · intro p hp
            rcases List.mem_append.mp hp with hp | hp
            · exact BO.wd p hp
            · have : p = (y, U) := by simpa using hp
              rw [this]; exact hy
          · intro p hp
            rcases List.mem_append.mp hp with hp | hp
            · obtain ⟨es', e', e''⟩ := BO.tup p hp
              exact ⟨es', tf _ _ e', e''⟩
            · have : p = (y, U) := by simpa using hp
              rw [this]
              exact ⟨es, by rw [upd_ne nUB, upd_same], by omega, by omega, e3⟩
          · intro p hp
            rw [List.take_add_one, hj]
            rcases List.mem_append.mp hp with hp | hp
            · exact List.mem_append_left _ (sub p hp)
            · have : p = (y, U) := by simpa using hp
              rw [this]; exact List.mem_append_right _ (by simp)
    · rintro σ H3 ⟨v6, v7, bs, rfl, BO, hb, sub, eB, D3, k3⟩
      rw [List.length_map] at hb
      refine ⟨_, rfl, ?_⟩
      refine q B bs H3 BO (fun e => by rw [e] at hb; simp at hb; omega) (by omega) nB eB D3 fun b o n e => k3 b o (ne_of_none e nB) n (k1 b o n (k0 b o e))
end
end K1

set_option Elab.async false
set_option linter.all false
set_option maxRecDepth 100000
set_option maxHeartbeats 1000000
namespace K1
open PySem PySem.Spec PyProof.Rows L2
/-- < of two texts, for min -/
theorem cmp_strs {prog : Program} {w : World} {A : Around} {P : Nat → Value → Prop} (val : Nat → Str) (hval : ∀ i v, P i v → ∃ t, v = .str (val i) t) :
    CmpOf prog w A .Lt P (fun i j => decide ((val i).cps.toList < (val j).cps.toList)) := fun i j vi vj s Q E hi hj h => by
  obtain ⟨t, rfl⟩ := hval i vi hi
  obtain ⟨u, rfl⟩ := hval j vj hj
  exact (show wpAny _ _ (compareOp .Lt (.str (val i) t) (.str (val j) u)) Q E s from PyProof.Rows.lt_str h)
def minS (a b : Str) : Str := if b.cps.toList < a.cps.toList then b else a
theorem best2 (f : Nat → Nat → Bool) : argBest f 1 = if f 1 0 then 1 else 0 := rfl
theorem pair_val {a b : Str} {t u : Tok} (i : Nat) (v : Value) (h : (#[Value.str a t, Value.str b u] : Array Value)[i]? = some v) : ∃ t', v = .str (if i = 0 then a else b) t' := by
  match i, h with
  | 0, h => exact ⟨t, (Option.some.inj h).symm⟩
  | 1, h => exact ⟨u, (Option.some.inj h).symm⟩
  | n + 2, h => cases h
theorem pair_best {a b : Str} {t u : Tok} {v : Value} (h : (#[Value.str a t, Value.str b u] : Array Value)[argBest (fun i j => decide ((if i = 0 then a else b).cps.toList < (if j = 0 then a else b).cps.toList)) 1]? = some v) : ∃ t', v = .str (minS a b) t' := by
  rw [best2] at h
  unfold minS
  by_cases e : b.cps.toList < a.cps.toList
  · rw [if_pos e]
    simp only [Nat.one_ne_zero, if_false, if_true, decide_eq_true e] at h
    exact ⟨u, (Option.some.inj h).symm⟩
  · rw [if_neg e]
    simp only [Nat.one_ne_zero, if_false, if_true, decide_eq_false e] at h
    exact ⟨t, (Option.some.inj h).symm⟩
section
variable {X : Cx}
theorem cr_minL2 (hc : X.calm = true) : CallR X (.builtin "min") (fun vs H Q => ∃ (p : Addr) (a b : Str), vs = [V.ref p] ∧ SqL X.K H p [V.str a, V.str b] ∧ Q (.str (minS a b)) H) := by
  intro pins s σ H vs us Q I r h
  obtain ⟨p, a, b, rfl, hs, q⟩ := h
  obtain ⟨its, rv, hl, _⟩ := I.list hs
  rw [Vals.ref1 r]
  obtain ⟨u1, u2, rfl, ⟨t, rfl⟩, ⟨t', rfl⟩⟩ : ∃ u1 u2, its = [u1, u2] ∧ RelV (.str a) u1 ∧ RelV (.str b) u2 := by
    cases rv with
    | cons p q =>
      cases q with
      | cons p' q' =>
        cases q'
        exact ⟨_, _, rfl, p, p'⟩
  refine call_min_walk (iter_any hl.isList fun s₂ e2 st hne => ?_)
  subst e2
  refine ⟨_, _, _, _, _, _, _, rfl, Walks.list (A := X.A.in1) (I.ok.hd hc) _ p hne #[Value.str a t, Value.str b t'], st, fun c hc => ?_, Nat.zero_lt_succ _, cmp_strs (fun i => if i = 0 then a else b) pair_val, fun v h' tk hP hk => ?_⟩
  · show c < (s.heap.push _).objs.size
    rw [Heap.size_push]
    rcases List.mem_cons.mp hc with rfl | hc
    · exact Nat.lt_succ_self _
    · rcases List.mem_cons.mp hc with rfl | hc
      · obtain ⟨_, e, _⟩ := hl.isList
        exact Nat.lt_succ_of_lt (Heap.lt_size e)
      · cases hc
  · obtain ⟨tt, rfl⟩ := pair_best hP
    exact ⟨.str _, H, I.kept (old_kept hk), ⟨_, rfl⟩, q⟩
theorem cr_min2s (hc : X.calm = true) : CallR X (.builtin "min") (fun vs H Q => ∃ (a b : Str), vs = [V.str a, V.str b] ∧ Q (.str (minS a b)) H) := by
  intro pins s σ H vs us Q I r h
  obtain ⟨a, b, rfl, q⟩ := h
  obtain ⟨u, w', rfl, ⟨t, rfl⟩, ⟨t', rfl⟩⟩ := vals2 r
  have hT : (s.heap.push { cls := .type "tuple", data := .seq #[.str a t, .str b t'] }).IsTuple s.heap.objs.size #[.str a t, .str b t'] := ⟨_, Heap.get?_push_size _ rfl, rfl, 0, rfl⟩
  refine call_min_two (wpAny_pyIter_tuple hT ?_)
  have hsz : (s.heap.push { cls := .type "tuple", data := .seq #[.str a t, .str b t'] }).objs.size = s.heap.objs.size + 1 := Heap.size_push ..
  refine ⟨_, [_, s.heap.objs.size], [_], _, _, _, _, rfl, Walks.tuple (A := X.A.in1) (I.ok.hd hc) _ s.heap.objs.size (by rw [hsz]; exact Nat.ne_of_lt (Nat.lt_succ_self _)) #[.str a t, .str b t'],
    ⟨⟨_, Heap.get?_push_size _ rfl, rfl, rfl⟩, hT.push _⟩, fun c hc => ?_, Nat.zero_lt_succ _, cmp_strs (fun i => if i = 0 then a else b) pair_val, fun v h' tk hP hk => ?_⟩
  · show c < ((s.heap.push _).push _).objs.size
    rw [Heap.size_push, hsz]
    rcases List.mem_cons.mp hc with rfl | hc
    · rw [hsz]; exact Nat.lt_succ_self _
    · rcases List.mem_cons.mp hc with rfl | hc
      · exact Nat.lt_succ_of_lt (Nat.lt_succ_self _)
      · cases hc
  · obtain ⟨tt, rfl⟩ := pair_best hP
    refine ⟨.str _, H, I.kept (fun c o e => ?_), ⟨_, rfl⟩, q⟩
    refine hk c o (fun hm => ?_) (Heap.get?_push_of_some _ (Heap.get?_push_of_some _ e))
    rcases List.mem_cons.mp hm with e1 | hm
    · have := Heap.lt_size e; rw [e1, hsz] at this; exact Nat.lt_irrefl _ (Nat.lt_of_succ_lt this)
    · cases hm
end
end K1

set_option Elab.async false
set_option linter.all false
set_option maxRecDepth 100000
set_option maxHeartbeats 1000000
namespace K1
open PySem PySem.Spec PyProof.Rows L2
section
variable {prog : Program} {w : World} {A : Around} {E : Value → Shared → Prop} {s : Shared} {K : PySem.W.Frag} {x C f : Addr} {ox : Obj} {od : Option Obj}
/-- a special of object's own, looked up on an instance -/
theorem ifBound_B {M : Model} {name : Str} {id : String} {args : List Value} {Q : Option Value → Shared → Prop} (X : K.In s.heap) (I : PySem.W.InstAt s.heap x ox C od) (hs : PySem.W.findIn K (.ref C) name = some (some (.builtin id))) (S : Slot "object" name id)
    (h : wpAny M A (call (.builtin id) (.ref x :: args)) (fun v => Q (some v)) E s) : wpAny M A (callSpecialIfBound? (.ref x) name args) Q E s := by
  simp only [callSpecialIfBound?, bindSpecialIfBound?]
  refine wpAny_holding (wpAny_bind (wpAny_bind (wpAny_bind (I.type.here ((PySem.W.looks_findIn X hs).here ?_)))))
  simp only [S.bind]
  refine wpAny_bind (wpAny_askSetting (wpAny_ite ?_))
  have fin : wpAny M A (call (.builtin id) ([.ref x] ++ args) >>= fun v => pure (some v)) Q E s := wpAny_bind (wpAny_mono h (fun v s' h' => wpAny_pure h') fun _ _ h' => h')
  split
  · exact wpAny_bind (wpAny_pure (wpAny_pure fin))
  · exact wpAny_tryCatch (wpAny_bind (wpAny_pure (wpAny_pure fin)))
/-- what object's != does with an own == -/
theorem objNe_K {y : Addr} {Q : Fin → Shared → Prop} (X : K.In s.heap) (I : PySem.W.InstAt s.heap x ox C od) (hs : PySem.W.findIn K (.ref C) "__eq__" = some (some (.ref f))) (hf : PySem.W.isFn K (.ref f) = true) (hu : A.units < cLine)
    (hcall : wpAny (model prog w) A (call (.ref f) [.ref x, .ref y]) (fun v s' => ∃ b, v = .bool b ∧ Q (.done (.ret (.bool (!b)))) s') E s) :
    wpAny (model prog w) A (Builtin.«object.__ne__» ⟨[.ref x, .ref y], []⟩) Q E s := by
  unfold Builtin.«object.__ne__»
  repeat (first
    | with_reducible refine wpAny_cRoomFor hu ?_
    | (refine wpAny_bind (m := callSpecialIfBound? (.ref x) (Str.ofString "__eq__") [.ref y])
        (PySem.W.ifBound_K X I hs hf (wpAny_mono hcall (fun r s' hr => by
          obtain ⟨b, rfl, hq⟩ := hr
          repeat (first | exact hq | exact wpAny_pure hq | exact wpAny_truthy_bool hq | (refine wpAny_bind (m := truthy (.bool _)) (wpAny_truthy_bool ?_)) | wp_step)) fun _ _ e => e)))
    | wp_step)
theorem ne_ownK {y : Addr} {Q : Value → Shared → Prop} (X : K.In s.heap) (I : PySem.W.InstAt s.heap x ox C od) (J : PySem.W.Looks (model prog w) s.heap (typeOf (.ref y)) (.ref C)) (hp : PySem.W.plainOver K C = true)
    (hn : PySem.W.findIn K (.ref C) "__ne__" = some (some (.builtin "object.__ne__"))) (hs : PySem.W.findIn K (.ref C) "__eq__" = some (some (.ref f))) (hf : PySem.W.isFn K (.ref f) = true) (hu : A.units + 1 < cLine)
    (hcall : wpAny (model prog w) A.in1 (call (.ref f) [.ref x, .ref y]) (fun v s' => ∃ b, v = .bool b ∧ Q (.bool (!b)) s') E s) :
    wpAny (model prog w) A (compareOp .NotEq (.ref x) (.ref y)) Q E s := by
  obtain ⟨cd, hc, ho⟩ := PySem.W.any_some hp
  have ne : cd.mro.isEmpty = false := by cases q : cd.mro with | nil => rw [q] at ho; cases ho | cons _ _ => rfl
  have sub : PySem.W.Looks (model prog w) s.heap (isInstance (.ref x) (.type "object")) true := I.type.andThen (PySem.W.looks_mroIn X (by unfold PySem.W.mroIn; rw [hc, Option.bind_some, if_neg (by rw [ne]; decide), PySem.W.only_has ho]))
  show wpAny _ _ (richCompare .NotEq (.ref x) (.ref y)) _ _ _
  have one : wpAny (model prog w) A (tryCompare (.ref x) "__ne__" (.ref y)) (fun r s' => ∃ v, r = some v ∧ Q v s') E s := by
    unfold tryCompare
    refine wpAny_bind (ifBound_B X I hn PySem.F.cmp_object.ne (wpAny_call (codeAny_call_builtin PySem.F.cmp_object.ne.plain F.cmpEntry_ne (PySem.W.check_slot (M := model prog w) F.cmpKind_ne F.cmpSplit_ne sub (F.cmpArgs_ne _ _) ?_))))
    refine objNe_K X I hs hf (by show A.in1.units < cLine; exact hu) (wpAny_mono hcall (fun v s' hv => ?_) fun _ _ e => e)
    obtain ⟨b, rfl, hq⟩ := hv
    exact ⟨b, rfl, wpAny_pure ⟨_, rfl, hq⟩⟩
  unfold richCompare
  simp only [oneThing_ref]
  refine wpAny_holding (wpAny_bind (wpAny_cRoomFor (Nat.lt_of_succ_lt hu) ?_))
  rw [cmpInfo_NotEq]
  dsimp only
  refine wpAny_bind (I.type.here (wpAny_bind (J.here ?_)))
  rw [show (Value.ref C != Value.ref C) = false from by simp]
  simp only [Bool.false_eq_true, if_false]
  refine wpAny_bind (wpAny_pure ?_)
  simp only [Bool.false_eq_true, if_false]
  refine wpAny_bind (wpAny_mono one (fun r s' hr => ?_) fun _ _ e => e)
  obtain ⟨v, rfl, hq⟩ := hr
  first | exact wpAny_pure hq | exact wpAny_pure (wpAny_pure hq)
end
section
variable {X : Cx} {CX : CXT} {n : Nat} {C f : Addr} {fd : FuncData} {ps : List Str} {sp : Sp} {E0 : XK}
/-- an own == that is called where an expression compares -/
theorem run_own {A : Around} {pins : List (Addr × Obj)} {σ : L2.St} {H : Hp} {s : Shared} {a b : Addr} {Q : VK} (F : FnOk X.prog X.w X.K X.mg X.base CX n f fd ps sp) (hb : Binds X.K fd ps []) (hx : Passes CX X E0) (sb : Sub X n A) (I : Inv X pins σ H s)
    (hsp : sp [.ref a, .ref b] H Q E0) : wpAny (model X.prog X.w) A (call (.ref f) [.ref a, .ref b]) (EP X pins σ Q) X.xe s := by
  have e0 : Env0 X.prog X.w X.K X.mg X.base A X.stack s H := by
    have e := I.env0
    exact ⟨by rw [sb.fr]; exact e.frames, e.mod, e.bs, e.bsz, e.funs, e.frf, e.hok, e.bare⟩
  have hl := F.len _ _ _ _ hsp
  have r2 : Vals [V.ref a, V.ref b] [Value.ref a, Value.ref b] := .cons rfl (.cons rfl .nil)
  refine wpAny_call (codeAny_mono (F.run A X.stack s H ⟨[.ref a, .ref b], []⟩ [.ref a, .ref b] [.ref a, .ref b] _ E0 sb.room e0 (by
    have := hb s [.ref a, .ref b] I.kIn (by simpa using hl)
    simpa using this) r2 hsp) fun r s' hq => ?_)
  cases r with
  | error e => exact hx pins σ H s e s' I hq
  | ok fl =>
    cases fl with
    | ret w => exact I.after hq
    | next => exact False.elim hq
    | brk => exact False.elim hq
    | cont => exact False.elim hq
def rOwnC (C : Addr) (sp : Sp) (E0 : XK) (g : Bool → Bool) : R2 := fun x y H Q => ∃ a b dx dy fs gs, x = .ref a ∧ y = .ref b ∧ H a = some (.ins C dx fs) ∧ H b = some (.ins C dy gs) ∧ sp [.ref a, .ref b] H (fun v H' => ∃ r, v = .bl r ∧ Q (.bl (g r)) H') E0
theorem op_eqOwn (F : FnOk X.prog X.w X.K X.mg X.base CX n f fd ps sp) (hs : PySem.W.findIn X.K (.ref C) "__eq__" = some (some (.ref f))) (hf : PySem.W.isFn X.K (.ref f) = true) (hb : Binds X.K fd ps []) (hx : Passes CX X E0) (hr : Room n X.A) :
    OpR X (compareOp .Eq) (rOwnC C sp E0 id) := by
  intro pins s σ H x y v u Q I rx ry h
  obtain ⟨a, b, dx, dy, fs, gs, rfl, rfl, ha, hb', hsp⟩ := h
  cases rx
  cases ry
  obtain ⟨mA, J, _⟩ := ins_get I.hok ha
  obtain ⟨mB, J', _⟩ := ins_get I.hok hb'
  obtain ⟨od, J, _⟩ := J.look
  obtain ⟨od', J', _⟩ := J'.look
  obtain ⟨m, hF⟩ := I.fr
  show wpAny _ _ (richCompare .Eq (.ref a) (.ref b)) _ _ _
  refine PySem.W.cmp_K (op := .Eq) (tb := .ref C) hr.units0 hF I.ok.mod.kin J J'.type (by simp [PySem.W.notFirst]) hs hf ?_
  refine wpAny_mono (run_own F hb hx ⟨hr, rfl⟩ I hsp) (fun v s' q => ?_) fun _ _ x => x
  obtain ⟨z, H', I', rz, r, ez, q⟩ := q
  subst ez
  cases rz
  exact ⟨.bl r, H', I', rfl, q⟩
theorem op_neOwn (F : FnOk X.prog X.w X.K X.mg X.base CX n f fd ps sp) (hp : PySem.W.plainOver X.K C = true) (hn : PySem.W.findIn X.K (.ref C) "__ne__" = some (some (.builtin "object.__ne__")))
    (hs : PySem.W.findIn X.K (.ref C) "__eq__" = some (some (.ref f))) (hf : PySem.W.isFn X.K (.ref f) = true) (hb : Binds X.K fd ps []) (hx : Passes CX X E0) (hr : Room (n + 1) X.A) :
    OpR X (compareOp .NotEq) (rOwnC C sp E0 not) := by
  intro pins s σ H x y v u Q I rx ry h
  obtain ⟨a, b, dx, dy, fs, gs, rfl, rfl, ha, hb', hsp⟩ := h
  cases rx
  cases ry
  obtain ⟨mA, J, _⟩ := ins_get I.hok ha
  obtain ⟨mB, J', _⟩ := ins_get I.hok hb'
  obtain ⟨od, J, _⟩ := J.look
  obtain ⟨od', J', _⟩ := J'.look
  have sb : Sub X (n + 1) X.A := ⟨hr, rfl⟩
  refine ne_ownK I.kIn J J'.type hp hn hs hf (by have := hr.un; omega) ?_
  refine wpAny_mono (run_own F hb hx sb.in1 I hsp) (fun v s' q => ?_) fun _ _ x => x
  obtain ⟨z, H', I', rz, r, ez, q⟩ := q
  subst ez
  cases rz
  exact ⟨r, rfl, .bl (!r), H', I', rfl, q⟩
/-! ### two dicts compared, the values alike or the same object -/
def flatR : V → Bool
  | .ref _ => true
  | v => flatB v
theorem eqAt_sameR {A : Around} {s : Shared} {v : V} {u u' : Value} (r : RelV v u) (r' : RelV v u') (f : flatR v = true) : SeqAt.EqAt A s u u' true := by
  cases v with
  | ref a => cases (show u = Value.ref a from r); cases (show u' = Value.ref a from r'); exact SeqAt.EqAt.same _
  | non => exact eqAt_same r r' rfl
  | bl b => exact eqAt_same r r' rfl
  | int i => exact eqAt_same r r' rfl
  | str x => exact eqAt_same r r' rfl
  | byt b => exact eqAt_same r r' rfl
  | flt x => exact absurd (show false = true from f) Bool.false_ne_true
  | ty n => exact absurd (show false = true from f) Bool.false_ne_true
theorem hits_allR {A : Around} {s : Shared} {kvs : List (Key × V)} {vb : List (Key × Value)} (rb : KV kvs vb) {ks : List (Key × V)} {va : List (Key × Value)} (ra : KV ks va) :
    (∀ p ∈ ks, valV kvs p.1 = some p.2 ∧ flatR p.2 = true) → PySem.W.KeqHits A s vb va true := by
  unfold KV at ra
  induction ra with
  | nil => intro _; exact .nil
  | @cons p q ps qs h t ih =>
    intro hp
    obtain ⟨h1, h2⟩ := h
    obtain ⟨e, f⟩ := hp p List.mem_cons_self
    have rr : RelO (some p.2) (valueAt vb p.1) := by rw [← e]; exact rb.val p.1
    obtain ⟨y, hy, ry⟩ := rr.some_of
    obtain ⟨k, v⟩ := q
    have h1' : p.1 = k := h1
    rw [h1'] at hy
    show PySem.W.KeqHits A s vb ((k, v) :: qs) (true && true)
    exact .hit hy (eqAt_sameR h2 ry f) (ih fun p' hm => hp p' (List.mem_cons_of_mem _ hm))
def rEqDR : R2 := fun x y H Q => ∃ a b ks ls, x = .ref a ∧ y = .ref b ∧ H a = some (.dK ks) ∧ H b = some (.dK ls) ∧
  ((ks.length = ls.length ∧ (∀ p ∈ ks, valV ls p.1 = some p.2 ∧ flatR p.2 = true) ∧ Q (.bl true) H) ∨ (ks.length ≠ ls.length ∧ Q (.bl false) H))
theorem op_eqDR (hu : X.A.units < cLine) : OpR X (compareOp .Eq) rEqDR := by
  intro pins s σ H x y v u Q I rx ry h
  obtain ⟨a, b, ks, ls, rfl, rfl, ea, eb, h⟩ := h
  obtain rfl : v = Value.ref a := rx
  obtain rfl : u = Value.ref b := ry
  obtain ⟨_, ya, va, ra, da⟩ := (show ObjOk X.prog X.w H s.heap a (.dK ks) from I.hok a _ ea)
  obtain ⟨_, yb, vb, rb, db⟩ := (show ObjOk X.prog X.w H s.heap b (.dK ls) from I.hok b _ eb)
  rcases h with ⟨hlen, hp, q⟩ | ⟨hlen, q⟩
  · have hl : va.length = vb.length := by rw [← ra.length, ← rb.length]; exact hlen
    exact PySem.W.keq_eq (knd := mixKind X.prog X.w) (r := true) ya yb da db hu (fun _ => hits_allR rb ra hp) (fin_bl I q (by simp [hl]))
  · have hl : ¬ va.length = vb.length := by rw [← ra.length, ← rb.length]; exact hlen
    exact PySem.W.keq_eq (knd := mixKind X.prog X.w) (r := true) ya yb da db hu (fun e => absurd e hl) (fin_bl I q (by simp [hl]))
end
end K1

set_option Elab.async false
set_option linter.all false
set_option maxRecDepth 100000
set_option maxHeartbeats 1000000
namespace K1
open PySem PySem.Spec PyProof.Rows L2
abbrev sLetter : Stmt := topS 7
abbrev sIsWord : Stmt := topS 8
abbrev sArePart : Stmt := topS 11
abbrev sAreEnds : Stmt := topS 12
abbrev sAreBlocks : Stmt := topS 13
theorem scLetter : FnScope ["sign"] ["sign"] (defScope sLetter) := ⟨rfl, rfl, rfl, by decide +kernel, rfl, by decide +kernel, by decide +kernel⟩
theorem scIsWord : FnScope ["thing", "sign"] ["thing"] (defScope sIsWord) := ⟨rfl, rfl, rfl, by decide +kernel, rfl, by decide +kernel, by decide +kernel⟩
theorem scArePart : FnScope ["partners", "kind", "other"] ["partners"] (defScope sArePart) := ⟨rfl, rfl, rfl, by decide +kernel, rfl, by decide +kernel, by decide +kernel⟩
theorem scAreEnds : FnScope ["partners", "ends", "kind"] ["partners", "ends"] (defScope sAreEnds) := ⟨rfl, rfl, rfl, by decide +kernel, rfl, by decide +kernel, by decide +kernel⟩
theorem scAreBlocks : FnScope ["partners", "blocks", "name"] ["partners", "blocks"] (defScope sAreBlocks) := ⟨rfl, rfl, rfl, by decide +kernel, rfl, by decide +kernel, by decide +kernel⟩
/-- what a value is, in a heap -/
inductive Kd where
  | str (z : Str) | int (i : Int) | bl (b : Bool) | non | tup (xs : List V) | lst (xs : List V) | dct (kvs : List (Key × V))
inductive Is (H : Hp) : V → Kd → Prop
  | str (z : Str) : Is H (.str z) (.str z)
  | int (i : Int) : Is H (.int i) (.int i)
  | bl (b : Bool) : Is H (.bl b) (.bl b)
  | non : Is H .non .non
  | tup {a : Addr} {xs : List V} (h : H a = some (.tup xs)) : Is H (.ref a) (.tup xs)
  | lst {a : Addr} {xs : List V} (h : H a = some (.lst xs)) : Is H (.ref a) (.lst xs)
  | dct {a : Addr} {kvs : List (Key × V)} (h : H a = some (.dK kvs)) : Is H (.ref a) (.dct kvs)
def tyK : Kd → String
  | .str _ => "str" | .int _ => "int" | .bl _ => "bool" | .non => "NoneType" | .tup _ => "tuple" | .lst _ => "list" | .dct _ => "dict"
theorem Is.ty {K : PySem.W.Frag} {H : Hp} {v : V} {k : Kd} (h : Is H v k) : TyX K H v (.type (tyK k)) := by
  cases h with
  | str z => exact .base (.str z)
  | int i => exact .base (.int i)
  | bl b => exact .base (.bl b)
  | non => exact .base .non
  | tup h => exact .base (.tup h)
  | lst h => exact .base (.lst h)
  | dct h => exact .base (.dK h)
theorem Is.same {H H' : Hp} {v : V} {k : Kd} (h : Is H v k) (e : Same H H') : Is H' v k := by
  cases h with
  | str z => exact .str z
  | int i => exact .int i
  | bl b => exact .bl b
  | non => exact .non
  | tup h => exact .tup (e _ _ h)
  | lst h => exact .lst (e _ _ h)
  | dct h => exact .dct (e _ _ h)
def isStrK : Kd → Bool | .str _ => true | _ => false
def isTupK : Kd → Bool | .tup _ => true | _ => false
def isDctK : Kd → Bool | .dct _ => true | _ => false
theorem kit_str {K : PySem.W.Frag} (k : Kd) : PySem.W.kitOne K (.type (tyK k)) (.type "str") = some (isStrK k) :=
  match k with
  | .str _ => kit_ty (a := "str") (b := "str") (r := true) (by decide +kernel)
  | .int _ => kit_ty (a := "int") (b := "str") (r := false) (by decide +kernel)
  | .bl _ => kit_ty (a := "bool") (b := "str") (r := false) (by decide +kernel)
  | .non => kit_ty (a := "NoneType") (b := "str") (r := false) (by decide +kernel)
  | .tup _ => kit_ty (a := "tuple") (b := "str") (r := false) (by decide +kernel)
  | .lst _ => kit_ty (a := "list") (b := "str") (r := false) (by decide +kernel)
  | .dct _ => kit_ty (a := "dict") (b := "str") (r := false) (by decide +kernel)
theorem kit_tup {K : PySem.W.Frag} (k : Kd) : PySem.W.kitOne K (.type (tyK k)) (.type "tuple") = some (isTupK k) :=
  match k with
  | .str _ => kit_ty (a := "str") (b := "tuple") (r := false) (by decide +kernel)
  | .int _ => kit_ty (a := "int") (b := "tuple") (r := false) (by decide +kernel)
  | .bl _ => kit_ty (a := "bool") (b := "tuple") (r := false) (by decide +kernel)
  | .non => kit_ty (a := "NoneType") (b := "tuple") (r := false) (by decide +kernel)
  | .tup _ => kit_ty (a := "tuple") (b := "tuple") (r := true) (by decide +kernel)
  | .lst _ => kit_ty (a := "list") (b := "tuple") (r := false) (by decide +kernel)
  | .dct _ => kit_ty (a := "dict") (b := "tuple") (r := false) (by decide +kernel)
theorem kit_dct {K : PySem.W.Frag} (k : Kd) : PySem.W.kitOne K (.type (tyK k)) (.type "dict") = some (isDctK k) :=
  match k with
  | .str _ => kit_ty (a := "str") (b := "dict") (r := false) (by decide +kernel)
  | .int _ => kit_ty (a := "int") (b := "dict") (r := false) (by decide +kernel)
  | .bl _ => kit_ty (a := "bool") (b := "dict") (r := false) (by decide +kernel)
  | .non => kit_ty (a := "NoneType") (b := "dict") (r := false) (by decide +kernel)
  | .tup _ => kit_ty (a := "tuple") (b := "dict") (r := false) (by decide +kernel)
  | .lst _ => kit_ty (a := "list") (b := "dict") (r := false) (by decide +kernel)
  | .dct _ => kit_ty (a := "dict") (b := "dict") (r := true) (by decide +kernel)
/-- the built-in names that the sheets' text asks for -/
structure Bi (mg : Str → Option Value) : Prop where
  isi : mg "isinstance" = none
  str : mg "str" = none
  len : mg "len" = none
  all : mg "all" = none
  dict : mg "dict" = none
  tuple : mg "tuple" = none
  list : mg "list" = none
  sorted : mg "sorted" = none
  min : mg "min" = none
  iter : mg "iter" = none
  lw : ∃ t, mg "LONGEST_WORD" = some (.int 8 t)
  me : ∃ t, mg "MOST_ENDS" = some (.int 4 t)
def letB (c : Nat) : Bool := decide (97 ≤ c) && decide (c ≤ 122)
/-- is a text a word -/
def wordB (z : Str) : Bool := decide (1 ≤ z.length) && decide (z.length ≤ 8) && z.cps.toList.all letB
theorem IsW.b {z : Str} (h : IsW z) : wordB z = true := by
  unfold wordB
  rw [decide_eq_true h.lo, decide_eq_true h.hi, Bool.true_and, Bool.true_and, List.all_eq_true]
  intro c hc
  unfold letB
  rw [decide_eq_true (h.ab c hc).1, decide_eq_true (h.ab c hc).2]
  rfl
def wordK : Kd → Bool | .str z => wordB z | _ => false
theorem one_lt (a b : Nat) : decide (([a] : List Nat) < [b]) = decide (a < b) := by
  have e : (([a] : List Nat) < [b]) ↔ a < b := by
    rw [List.cons_lt_cons_iff]
    simp
  by_cases h : a < b
  · rw [decide_eq_true h, decide_eq_true (e.mpr h)]
  · rw [decide_eq_false h, decide_eq_false fun q => h (e.mp q)]
theorem cps_a : (PySem.Str.ofString "a").cps.toList = [97] := by decide +kernel
theorem cps_z : (PySem.Str.ofString "z").cps.toList = [122] := by decide +kernel
section
variable {P : Program} {w : World} {K : PySem.W.Frag} {mg : Str → Option Value} {base : Heap}
def spLetter : Sp := fun vs H Q _ => ∃ (c : Nat), vs = [.str ⟨#[c]⟩] ∧ Q (.bl (letB c)) H
theorem ok_letter {f : Addr} {fd : FuncData} (F : Fun K "is_letter" "is_letter" sLetter f fd) : FnOk P w K mg base CX0 1 f fd ["sign"] spLetter := by
  refine F.ok scLetter (fun vs H Q E h => ?_) (fun cdv A outer s H vs Q E hr h => ?_)
  · obtain ⟨c, rfl, _⟩ := h
    rfl
  · obtain ⟨c, rfl, q⟩ := h
    refine ⟨_, pss_one (ps_ret (pe_chain op_le_str op_le_str pe_str (pv 0) pe_str)), ?_⟩
    refine ⟨_, rfl, _, _, rfl, rfl, _, rfl, ?_⟩
    rw [cps_a]
    show if (!decide (([c] : List Nat) < [97])) = true then _ else _
    rw [one_lt]
    have e : (!decide (c < 97)) = decide (97 ≤ c) := by
      by_cases h : c < 97
      · rw [decide_eq_true h, decide_eq_false (by omega)]; rfl
      · rw [decide_eq_false h, decide_eq_true (by omega)]; rfl
    rw [e]
    unfold letB at q
    by_cases h : 97 ≤ c
    · rw [decide_eq_true h] at q ⊢
      rw [if_pos rfl]
      refine ⟨_, _, rfl, rfl, ?_⟩
      rw [cps_z]
      show Q (.bl (!decide (([122] : List Nat) < [c]))) H
      rw [one_lt]
      have e2 : (!decide (122 < c)) = decide (c ≤ 122) := by
        by_cases h : c ≤ 122
        · rw [decide_eq_true h, decide_eq_false (by omega)]; rfl
        · rw [decide_eq_false h, decide_eq_true (by omega)]; rfl
      rw [e2]
      exact q
    · rw [decide_eq_false h] at q ⊢
      rw [if_neg Bool.false_ne_true]
      exact q
/-- a comprehension over a text -/
theorem lc_str {z : Str} {g : TG} {tt : TT} {te : TE} {vs : List Nat} {σ : L2.St} {H1 : Hp} {D : Addr} {Qd : Hp → Prop} (Pv : Nat → Hp → Prop) (h0 : Pv 0 (upd H1 D (.lst [])))
    (hs : ∀ i c H, z.cps[i]? = some c → Pv i H → g (.str ⟨#[c]⟩) (wipe σ vs) H fun σ2 H2 => wipe σ2 vs = wipe σ vs ∧ tt σ2 H2 fun b H3 =>
      if b = true then te σ2 H3 fun y H4 => ∃ acc, H4 D = some (.lst acc) ∧ acc.length < sizeLine ∧ Pv (i + 1) (upd H4 D (.lst (acc ++ [y]))) else Pv (i + 1) H3) (hd : ∀ H, Pv z.cps.size H → Qd H) :
    ∃ W : Nat → Nat → Hp → Prop, (∃ m, W 0 m (upd H1 D (.lst []))) ∧ ∀ i m H, W i m H →
      ((Its z).stop i H ∧ Qd H) ∨ ((Its z).go i H ∧ ∃ Nx : Hp → Prop, (∀ H', Nx H' → ∃ m', m' < m ∧ W (i + 1) m' H') ∧ ∀ x H', (Its z).yld i H x H' → g x (wipe σ vs) H' fun σ2 H2 => wipe σ2 vs = wipe σ vs ∧ tt σ2 H2 fun b H3 =>
        if b = true then te σ2 H3 fun y H4 => ∃ acc, H4 D = some (.lst acc) ∧ acc.length < sizeLine ∧ Nx (upd H4 D (.lst (acc ++ [y]))) else Nx H3) := by
  refine ⟨fun i m H => m = z.cps.size - i ∧ i ≤ z.cps.size ∧ Pv i H, ⟨z.cps.size, by simp, Nat.zero_le _, h0⟩, ?_⟩
  rintro i m H ⟨rfl, hi, p⟩
  by_cases hlt : i < z.cps.size
  · refine .inr ⟨hlt, Pv (i + 1), fun H' p' => ⟨z.cps.size - (i + 1), by omega, rfl, hlt, p'⟩, fun x H' y => ?_⟩
    obtain ⟨e, c, hc, ex⟩ := y
    subst e
    subst ex
    exact hs i c _ hc p
  · have e : i = z.cps.size := by omega
    subst e
    exact .inl ⟨Nat.le_refl _, hd H p⟩
def spIsWord : Sp := fun vs H Q _ => ∃ (x : V) (k : Kd), vs = [x] ∧ Is H x k ∧ (∀ z, k = .str z → z.length ≤ sizeLine) ∧ ∀ H', Same H H' → Q (.bl (wordK k)) H'
theorem ok_isWord {f fL : Addr} {fd fdL : FuncData} (F : Fun K "is_word" "is_word" sIsWord f fd) (dL : D K mg "is_letter" sLetter ["sign"] fL fdL) (B : Bi mg) : FnOk P w K mg base CX0 2 f fd ["thing"] spIsWord := by
  have GL : FnOk P w K mg base CX0 1 fL fdL ["sign"] spLetter := ok_letter dL.F
  obtain ⟨tk, hlw⟩ := B.lw
  refine F.ok scIsWord (fun vs H Q E h => ?_) (fun cdv A outer s H vs Q E hr h => ?_)
  · obtain ⟨x, k, rfl, _⟩ := h
    rfl
  · obtain ⟨x, k, rfl, hx, hz, q⟩ := h
    refine ⟨_, pss_cons (ps_if (PW.pt (pw_or (pt_not (pt_val (pe_callB call_isi (by rfl) B.isi boot_isinstance (pa_cons (pv 0) (pa_cons (pe_bltn (by rfl) B.str boot_str (v := .ty "str") rfl) pa_nil)))))
        (pw_or1 (pt_not (pt_chain op_le op_le pe_int (pe_callB call_len_str (by rfl) B.len PySem.boot_len (pa_cons (pv 0) pa_nil)) (pe_glob rfl hlw (v := .int 8) ⟨_, rfl⟩)))))) (pss_one (ps_ret pe_bl)) pss_nil)
      (pss_one (ps_ret (pe_callB (cr_all rfl) (by rfl) B.all boot_all (pa_cons
        (pe_lc (own := [("sign", 1)]) (g := gName 1) (tt := tYes) rfl scIsWord.nd (pi_str (pv 0)) (blkOk_by (own := [("sign", 1)]) (N := ["thing", "sign"]) (sc := defScope sIsWord) (by decide +kernel))
          (fun _ _ _ _ _ => pg_name (i := 1) scIsWord.nd rfl (Or.inl rfl)) (fun _ _ _ _ _ => pts_nil)
          (fun _ _ _ _ _ => pe_call GL hr (by rfl) dL.m dL.F.kp dL.b .nil pass0 (pa_cons (pv 1) pa_nil))) pa_nil)))), ?_⟩
    refine ⟨_, rfl, _, _, _, _, _, rfl, .ty "str", hx.ty, kit_str k, _, rfl, ?_⟩
    cases k with
    | str z =>
      cases hx
      have hz := hz z rfl
      show if (!true) = true then _ else _
      rw [if_neg (by decide)]
      refine ⟨_, rfl, z, rfl, hz, ?_⟩
      refine ⟨_, _, rfl, rfl, _, rfl, ?_⟩
      by_cases h1 : (1 : Int) ≤ (z.length : Int)
      · rw [decide_eq_true h1, if_pos rfl]
        refine ⟨_, _, rfl, rfl, _, rfl, ?_⟩
        by_cases h2 : (z.length : Int) ≤ 8
        · rw [decide_eq_true h2]
          show if (!true) = true then _ else _
          rw [if_neg (by decide)]
          have hw : wordB z = (z.cps.toList.map letB).all id := by
            unfold wordB
            rw [decide_eq_true (show 1 ≤ z.length by omega), decide_eq_true (show z.length ≤ 8 by omega), Bool.true_and, Bool.true_and, List.all_map]
            rfl
          have hs : z.cps.toList.length = z.length := by simp [Str.length]
          refine ⟨_, rfl, z, rfl, fun L nL => lc_str (fun i H2 => H2 = upd H L (.lst (((z.cps.toList.take i).map letB).map V.bl))) rfl ?_ ?_⟩
          · rintro i c H2 hc rfl
            have hc2 : z.cps.toList[i]? = some c := by rw [Array.getElem?_toList]; exact hc
            refine ⟨rfl, _, rfl, c, rfl, _, upd_same, ?_, ?_⟩
            · rw [List.length_map, List.length_map, List.length_take]
              exact small1000 (by omega)
            · rw [upd_upd, List.take_add_one, hc2, List.map_append, List.map_append]
              rfl
          · rintro H2 rfl
            refine ⟨L, _, rfl, SqL.of upd_same, ?_⟩
            have e : z.cps.toList.take z.cps.size = z.cps.toList := List.take_of_length_le (by simp)
            rw [e]
            rw [show wordK (.str z) = wordB z from rfl, hw] at q
            exact q _ (same_upd nL)
        · rw [decide_eq_false h2]
          show if (!false) = true then _ else _
          rw [if_pos (by decide)]
          have hw : wordB z = false := by
            unfold wordB
            rw [decide_eq_false (show ¬ z.length ≤ 8 by omega), Bool.and_false, Bool.false_and]
          rw [show wordK (.str z) = wordB z from rfl, hw] at q
          exact q _ (Same.refl _)
      · rw [decide_eq_false h1, if_neg Bool.false_ne_true]
        refine ⟨_, rfl, ?_⟩
        show if (!false) = true then _ else _
        rw [if_pos (by decide)]
        have hw : wordB z = false := by
          unfold wordB
          rw [decide_eq_false (show ¬ 1 ≤ z.length by omega), Bool.false_and, Bool.false_and]
        rw [show wordK (.str z) = wordB z from rfl, hw] at q
        exact q _ (Same.refl _)
    | int i => exact q H (Same.refl _)
    | bl i => exact q H (Same.refl _)
    | non => exact q H (Same.refl _)
    | tup i => exact q H (Same.refl _)
    | lst i => exact q H (Same.refl _)
    | dct i => exact q H (Same.refl _)
end
end K1

set_option Elab.async false
set_option linter.all false
set_option maxRecDepth 100000
set_option maxHeartbeats 1000000
namespace K1
open PySem PySem.Spec PyProof.Rows L2
/-- a loop over a dict's pairs -/
theorem for_items {d : Addr} {o : Obj} {kvs : List (Key × V)} {g : TG} {tb : TS} {D : L2.Ends} {σ : L2.St} {H : Hp} (Pv : Nat → L2.St → Hp → Prop) (h0 : Pv 0 σ H) (hl : ∀ i σ H, Pv i σ H → H d = some (.frz o (.dK kvs)))
    (hs : ∀ i k v T σ H, kvs[i]? = some (k, v) → H T = none → Pv i σ H → g (.ref T) σ (upd H T (.tup [kV k, v])) fun σ2 H2 => tb { D with nx := Pv (i + 1), ct := Pv (i + 1), bk := D.nx } σ2 H2) (hd : ∀ σ H, Pv kvs.length σ H → D.nx σ H) :
    ∃ W : Nat → Nat → L2.St → Hp → Prop, (∃ m, W 0 m σ H) ∧ ∀ i m σ H, W i m σ H →
      ((Iti d o kvs).stop i H ∧ D.nx σ H) ∨ ((Iti d o kvs).go i H ∧ ∃ N : L2.St → Hp → Prop, (∀ σ' H', N σ' H' → ∃ m', m' < m ∧ W (i + 1) m' σ' H') ∧ ∀ x H', (Iti d o kvs).yld i H x H' → g x σ H' fun σ2 H2 => tb { D with nx := N, ct := N, bk := D.nx } σ2 H2) := by
  refine ⟨fun i m σ H => m = kvs.length - i ∧ i ≤ kvs.length ∧ Pv i σ H, ⟨kvs.length, by simp, Nat.zero_le _, h0⟩, ?_⟩
  rintro i m σ H ⟨rfl, hi, p⟩
  have q := hl i σ H p
  by_cases hlt : i < kvs.length
  · refine .inr ⟨⟨q, hlt⟩, Pv (i + 1), fun σ' H' p' => ⟨kvs.length - (i + 1), by omega, rfl, hlt, p'⟩, fun x H' y => ?_⟩
    obtain ⟨T, k, v, e, ex, eT, eH⟩ := y
    subst ex
    subst eH
    exact hs i k v T σ _ e eT p
  · have e : i = kvs.length := by omega
    subst e
    exact .inl ⟨⟨q, Nat.le_refl _⟩, hd σ H p⟩
/-- a comprehension over a dict's keys -/
theorem lc_keys {d : Addr} {o : Obj} {kvs : List (Key × V)} {g : TG} {tt : TT} {te : TE} {vs : List Nat} {σ : L2.St} {H1 : Hp} {D : Addr} {Qd : Hp → Prop} (Pv : Nat → Hp → Prop) (h0 : Pv 0 (upd H1 D (.lst []))) (hl : ∀ i H, Pv i H → H d = some (.frz o (.dK kvs)))
    (hs : ∀ i k v H, kvs[i]? = some (k, v) → Pv i H → g (kV k) (wipe σ vs) H fun σ2 H2 => wipe σ2 vs = wipe σ vs ∧ tt σ2 H2 fun b H3 =>
      if b = true then te σ2 H3 fun y H4 => ∃ acc, H4 D = some (.lst acc) ∧ acc.length < sizeLine ∧ Pv (i + 1) (upd H4 D (.lst (acc ++ [y]))) else Pv (i + 1) H3) (hd : ∀ H, Pv kvs.length H → Qd H) :
    ∃ W : Nat → Nat → Hp → Prop, (∃ m, W 0 m (upd H1 D (.lst []))) ∧ ∀ i m H, W i m H →
      ((Itk d o kvs).stop i H ∧ Qd H) ∨ ((Itk d o kvs).go i H ∧ ∃ Nx : Hp → Prop, (∀ H', Nx H' → ∃ m', m' < m ∧ W (i + 1) m' H') ∧ ∀ x H', (Itk d o kvs).yld i H x H' → g x (wipe σ vs) H' fun σ2 H2 => wipe σ2 vs = wipe σ vs ∧ tt σ2 H2 fun b H3 =>
        if b = true then te σ2 H3 fun y H4 => ∃ acc, H4 D = some (.lst acc) ∧ acc.length < sizeLine ∧ Nx (upd H4 D (.lst (acc ++ [y]))) else Nx H3) := by
  refine ⟨fun i m H => m = kvs.length - i ∧ i ≤ kvs.length ∧ Pv i H, ⟨kvs.length, by simp, Nat.zero_le _, h0⟩, ?_⟩
  rintro i m H ⟨rfl, hi, p⟩
  have q := hl i H p
  by_cases hlt : i < kvs.length
  · refine .inr ⟨⟨q, hlt⟩, Pv (i + 1), fun H' p' => ⟨kvs.length - (i + 1), by omega, rfl, hlt, p'⟩, fun x H' y => ?_⟩
    obtain ⟨e, k, v, hk, ex⟩ := y
    subst e
    subst ex
    exact hs i k v _ hk p
  · have e : i = kvs.length := by omega
    subst e
    exact .inl ⟨⟨q, Nat.le_refl _⟩, hd H p⟩
/-- a dict comprehension over a list -/
theorem dc_list {K : PySem.W.Frag} {a : Addr} {xs : List V} {g : TG} {tt : TT} {tk tv : TE} {vs : List Nat} {σ : L2.St} {H1 : Hp} {D : Addr} {Qd : Hp → Prop} (Pv : Nat → Hp → Prop) (h0 : Pv 0 (upd H1 D (.dK []))) (hl : ∀ i H, i ≤ xs.length → Pv i H → SqL K H a xs)
    (hs : ∀ i x H, xs[i]? = some x → Pv i H → g x (wipe σ vs) H fun σ2 H2 => wipe σ2 vs = wipe σ vs ∧ tt σ2 H2 fun b H3 =>
      if b = true then tk σ2 H3 fun y H4 => tv σ2 H4 fun z H5 => ∃ kvs k, y = kV k ∧ H5 D = some (.dK kvs) ∧ kvs.length < sizeLine ∧ Pv (i + 1) (upd H5 D (.dK (putK kvs k z))) else Pv (i + 1) H3) (hd : ∀ H, Pv xs.length H → Qd H) :
    ∃ W : Nat → Nat → Hp → Prop, (∃ m, W 0 m (upd H1 D (.dK []))) ∧ ∀ i m H, W i m H →
      ((Itl K a).stop i H ∧ Qd H) ∨ ((Itl K a).go i H ∧ ∃ Nx : Hp → Prop, (∀ H', Nx H' → ∃ m', m' < m ∧ W (i + 1) m' H') ∧ ∀ x H', (Itl K a).yld i H x H' → g x (wipe σ vs) H' fun σ2 H2 => wipe σ2 vs = wipe σ vs ∧ tt σ2 H2 fun b H3 =>
        if b = true then tk σ2 H3 fun y H4 => tv σ2 H4 fun z H5 => ∃ kvs k, y = kV k ∧ H5 D = some (.dK kvs) ∧ kvs.length < sizeLine ∧ Nx (upd H5 D (.dK (putK kvs k z))) else Nx H3) := by
  refine ⟨fun i m H => m = xs.length - i ∧ i ≤ xs.length ∧ Pv i H, ⟨xs.length, by simp, Nat.zero_le _, h0⟩, ?_⟩
  rintro i m H ⟨rfl, hi, p⟩
  have q := hl i H hi p
  by_cases hlt : i < xs.length
  · refine .inr ⟨⟨xs, xs[i], q, by simp [hlt]⟩, Pv (i + 1), fun H' p' => ⟨xs.length - (i + 1), by omega, rfl, hlt, p'⟩, fun x H' y => ?_⟩
    obtain ⟨e, y⟩ := y
    subst e
    exact hs i x _ (y xs q) p
  · have e : i = xs.length := by omega
    subst e
    exact .inl ⟨⟨xs, q, Nat.le_refl _⟩, hd H p⟩
/-- a dict with texts as keys -/
def sk (l : List (Str × V)) : List (Key × V) := l.map fun p => ((Sum.inr p.1 : Key), p.2)
theorem sk_val (l : List (Str × V)) (a : Str) : valV (sk l) (Sum.inr a) = look l a := by
  have e := valV_map (fun v : V => v) l a
  unfold sk
  rw [e]
  cases look l a <;> rfl
def sOk (v : V) : Prop := match v with
  | .str z => z.length ≤ sizeLine ∧ PySem.PyData.strOk z = true
  | .int _ => True
  | _ => False
/-- what may stand as a value of the dicts: no dict -/
def kOk : Kd → Prop
  | .str z => sOk (.str z)
  | .tup xs => ∀ x ∈ xs, sOk x
  | .lst xs => ∀ x ∈ xs, sOk x
  | .dct _ => False
  | _ => True
def eqS (v : V) (k : Str) : Bool := match v with
  | .str z => z == k
  | _ => false
theorem dp_all {K : PySem.W.Frag} {H : Hp} : ∀ {xs : List V}, (∀ x ∈ xs, sOk x) → ∃ ds, DpAll K H xs ds ∧ PyData.canLayAll0 ds = true ∧ PyData.depthAll ds ≤ 1
  | [], _ => ⟨[], .nil, rfl, by first | exact Nat.zero_le _ | decide⟩
  | x :: r, h => by
    obtain ⟨ds, h1, h2, h3⟩ := dp_all (xs := r) fun y hy => h y (by simp [hy])
    have hx := h x (by simp)
    cases x with
    | str z =>
      refine ⟨.str z :: ds, .cons (.str z) h1, ?_, ?_⟩
      · simp [PyData.canLayAll0, PyData.canLay0, h2, hx.2]
      · simp [PyData.depthAll, PyData.depth]; omega
    | int i =>
      refine ⟨.int i :: ds, .cons (.int i) h1, ?_, ?_⟩
      · simp [PyData.canLayAll0, PyData.canLay0, h2]
      · simp [PyData.depthAll, PyData.depth]; omega
    | _ => exact hx.elim
theorem is_dp {K : PySem.W.Frag} {H : Hp} {v : V} {k : Kd} (h : Is H v k) (ok : kOk k) : ∃ d, Dp K H v d ∧ SeqAt.shaped d = true ∧ ∀ z, PyData.eqv d (.str z) = eqS v z := by
  cases h with
  | str z => exact ⟨.str z, .str z, by unfold SeqAt.shaped; simp [PyData.canLay0, PyData.depth]; exact ok.2, fun z' => by simp [PyData.eqv, eqS]⟩
  | int i => exact ⟨.int i, .int i, by unfold SeqAt.shaped; simp [PyData.canLay0, PyData.depth], fun z' => by simp [PyData.eqv, eqS]⟩
  | bl b => exact ⟨.bool b, .bl b, by unfold SeqAt.shaped; simp [PyData.canLay0, PyData.depth], fun z' => by simp [PyData.eqv, eqS]⟩
  | non => exact ⟨.none, .non, by unfold SeqAt.shaped; simp [PyData.canLay0, PyData.depth], fun z' => by simp [PyData.eqv, eqS]⟩
  | tup h =>
    obtain ⟨ds, h1, h2, h3⟩ := dp_all (K := K) (H := H) ok
    refine ⟨.tuple ds, .tup (SqT.of h) h1, ?_, fun z' => by simp [PyData.eqv, eqS]⟩
    unfold SeqAt.shaped
    simp only [PyData.canLay0, h2, PyData.depth, Bool.true_and]
    exact decide_eq_true (by omega)
  | lst h =>
    obtain ⟨ds, h1, h2, h3⟩ := dp_all (K := K) (H := H) ok
    refine ⟨.list ds, .lst (SqL.of h) h1, ?_, fun z' => by simp [PyData.eqv, eqS]⟩
    unfold SeqAt.shaped
    simp only [PyData.canLay0, h2, PyData.depth, Bool.true_and]
    exact decide_eq_true (by omega)
  | dct h => exact ok.elim
/-- an entry of the partners passes -/
def entB (l : List (Str × V)) (p : Str × V) : Bool := match p.2 with
  | .str y => (match look l y with | some v => eqS v p.1 | none => false)
  | _ => false
def partB (l : List (Str × V)) : Bool := !l.isEmpty && (l.map (·.1)).all wordB && l.all (entB l)
theorem Same.lock {H H' : Hp} {d : Addr} {u o : HO} (hd : H d = some u) (e : Same (upd H d o) H') : Same H (upd H' d u) := fun b x hb => by
  by_cases h : b = d
  · subst h
    rw [upd_same]
    rw [hd] at hb
    exact hb
  · rw [upd_ne h]
    exact e b x (by rw [upd_ne h]; exact hb)
theorem Is.lock {H : Hp} {d : Addr} {u' : List (Key × V)} {o : HO} {v : V} {k : Kd} (h : Is H v k) (ok : kOk k) (hd : H d = some (.dK u')) : Is (upd H d o) v k := by
  cases h with
  | str z => exact .str z
  | int i => exact .int i
  | bl b => exact .bl b
  | non => exact .non
  | tup h => exact .tup (by rw [upd_ne (ne_of h hd (by intro z; cases z))]; exact h)
  | lst h => exact .lst (by rw [upd_ne (ne_of h hd (by intro z; cases z))]; exact h)
  | dct h => exact ok.elim
section
variable {P : Program} {w : World} {K : PySem.W.Frag} {mg : Str → Option Value} {base : Heap}
theorem h64_of {A : Around} {k : Nat} (hr : Room k A) : A.units + 64 < cLine := by
  have := hr.un
  omega
theorem Is.str_inv {H : Hp} {v : V} {y : Str} (h : Is H v (.str y)) : v = .str y := by
  cases h
  rfl
theorem all_no {l : List (Str × V)} {p : Str × V} (h : p ∈ l) (e : entB l p = false) : l.all (entB l) = false := by
  rw [List.all_eq_false]
  exact ⟨p, h, by rw [e]; decide⟩
theorem entB_no {l : List (Str × V)} {p : Str × V} {H : Hp} {k : Kd} (h : Is H p.2 k) (e : isStrK k = false) : entB l p = false := by
  unfold entB
  cases k with
  | str z => cases e
  | _ => 
    generalize p.2 = v at h
    cases h <;> rfl
theorem entB_str {l : List (Str × V)} {p : Str × V} {y : Str} (h : p.2 = .str y) : entB l p = (match look l y with | some v => eqS v p.1 | none => false) := by
  unfold entB
  rw [h]
/-- what _are_partners answers for a value -/
inductive PartV (H : Hp) : V → Bool → Prop
  | no {x : V} {k : Kd} (h : Is H x k) (hk : isDctK k = false) : PartV H x false
  | dct {a : Addr} {l : List (Str × V)} (h : H a = some (.dK (sk l))) (hl : l.length ≤ 100) (hk : ∀ p ∈ l, sOk (.str p.1)) (hv : ∀ p ∈ l, ∃ k, Is H p.2 k ∧ kOk k) : PartV H (.ref a) (partB l)
def spArePart : Sp := fun vs H Q _ => ∃ (x : V) (r : Bool), vs = [x] ∧ PartV H x r ∧ ∀ H', Same H H' → Q (.bl r) H'
theorem ok_arePart {f fW : Addr} {fd fdW : FuncData} (F : Fun K "_are_partners" "_are_partners" sArePart f fd) (dW : D K mg "is_word" sIsWord ["thing"] fW fdW) (GW : FnOk P w K mg base CX0 2 fW fdW ["thing"] spIsWord) (B : Bi mg) :
    FnOk P w K mg base CX0 3 f fd ["partners"] spArePart := by
  refine F.ok scArePart (fun vs H Q E h => ?_) (fun cdv A outer s H vs Q E hr h => ?_)
  · obtain ⟨x, r, rfl, _⟩ := h
    rfl
  · obtain ⟨x, r, rfl, hP, q⟩ := h
    have hu := hu_of hr
    refine ⟨_, pss_cons (ps_if (PW.pt (pw_or (pt_not (pt_val (pe_callB call_isi (by rfl) B.isi boot_isinstance (pa_cons (pv 0) (pa_cons (pe_bltn (by rfl) B.dict boot_dict (v := .ty "dict") rfl) pa_nil)))))
        (pw_or1 (pt_not (pt_truth (pv 0) (by intro _; rfl)))))) (pss_one (ps_ret pe_bl)) pss_nil)
      (pss_cons (ps_if (pt_not (pt_val (pe_callB (cr_all rfl) (by rfl) B.all boot_all (pa_cons
          (pe_lock (pe_lc (own := [("kind", 1)]) (g := gName 1) (tt := tYes) rfl scArePart.nd (pi_keys (pv 0)) (blkOk_by (own := [("kind", 1)]) (N := ["partners", "kind", "other"]) (sc := defScope sArePart) (by decide +kernel))
            (fun _ _ _ _ _ => pg_name (i := 1) scArePart.nd rfl (Or.inl rfl)) (fun _ _ _ _ _ => pts_nil)
            (fun _ _ _ _ _ => pe_call GW hr (by rfl) dW.m dW.F.kp dW.b .nil pass0 (pa_cons (pv 1) pa_nil)))) pa_nil)))) (pss_one (ps_ret pe_bl)) pss_nil)
      (pss_cons (ps_lock (ps_for PassesOwn.never rfl (pi_items (pv 0)) (pg_tup rfl (pgs_cons (pg_name (i := 1) scArePart.nd rfl (.inl rfl)) (pgs_cons (pg_name (i := 2) scArePart.nd rfl (.inl rfl)) pgs_nil)))
          (pss_cons (ps_if (PW.pt (pw_or (pt_not (pt_val (pe_callB call_isi (by rfl) B.isi boot_isinstance (pa_cons (pv 2) (pa_cons (pe_bltn (by rfl) B.str boot_str (v := .ty "str") rfl) pa_nil)))))
              (pw_or1 (pt_cmp (pc_dnotin hu (pv 2) (pv 0)))))) (pss_one (ps_ret pe_bl)) pss_nil)
          (pss_one (ps_if (pt_cmpR (op_neD (h64_of hr)) (pe_dget hu (pv 0) (pv 2) (fun _ _ => rfl)) (pv 1) (nomark _)) (pss_one (ps_ret pe_bl)) pss_nil)))))
      (pss_one (ps_ret pe_bl)))), ?_⟩
    cases hP with
    | no h hk =>
      refine ⟨_, rfl, _, _, _, _, _, rfl, .ty "dict", h.ty, kit_dct _, _, rfl, ?_⟩
      rw [hk]
      exact q H (Same.refl _)
    | @dct a l h hl hk hv =>
      refine ⟨_, rfl, _, _, _, _, _, rfl, .ty "dict", (Is.dct h).ty, kit_dct _, _, rfl, ?_⟩
      refine ⟨_, rfl, !l.isEmpty, .inr (.inr ⟨_, h, ?_⟩), ?_⟩
      · cases l <;> rfl
      cases hne : l.isEmpty with
      | true =>
        have e : partB l = false := by unfold partB; rw [hne]; rfl
        rw [e] at q
        exact q H (Same.refl _)
      | false =>
        show if (!true) = true then _ else _
        rw [if_neg (by decide)]
        -- all(..)
        refine ⟨a, _, h, True.intro, fun od => ⟨_, rfl, a, od, rfl, .inl ⟨_, upd_same, fun L nL => ?_⟩⟩⟩
        have nLa : L ≠ a := fun e => by rw [e, upd_same] at nL; cases nL
        have nL0 : H L = none := by rw [upd_ne nLa] at nL; exact nL
        refine lc_keys (fun i H2 => H2 L = some (.lst (((l.take i).map fun p => wordB p.1).map V.bl)) ∧ H2 a = some (.frz od (.dK (sk l))) ∧ ∀ b o, b ≠ L → b ≠ a → H b = some o → H2 b = some o)
          ⟨upd_same, by rw [upd_ne nLa.symm, upd_same], fun b o n1 n2 e => by rw [upd_ne n1, upd_ne n2]; exact e⟩ (fun i H2 p => p.2.1) ?_ ?_
        · rintro i k v H2 hkv ⟨e1, e2, e3⟩
          obtain ⟨p, hp, rfl, rfl⟩ : ∃ p, l[i]? = some p ∧ k = Sum.inr p.1 ∧ v = p.2 := by
            unfold sk at hkv
            rw [List.getElem?_map] at hkv
            cases hp : l[i]? with
            | none => rw [hp] at hkv; cases hkv
            | some p =>
              rw [hp] at hkv
              have := Option.some.inj hkv
              exact ⟨p, rfl, (congrArg Prod.fst this).symm, (congrArg Prod.snd this).symm⟩
          have hi : i < l.length := (List.getElem?_eq_some_iff.mp hp).1
          refine ⟨rfl, _, rfl, _, .str p.1, rfl, .str p.1, fun z ez => ?_, fun H3 s3 => ?_⟩
          · cases ez
            exact (hk p (List.mem_of_getElem? hp)).1
          · refine ⟨_, s3 _ _ e1, ?_, ?_, ?_, ?_⟩
            · rw [List.length_map, List.length_map, List.length_take]
              exact small1000 (by omega)
            · rw [upd_same, List.take_add_one, hp, List.map_append, List.map_append]
              rfl
            · rw [upd_ne nLa.symm]
              exact s3 _ _ e2
            · intro b o n1 n2 e
              rw [upd_ne n1]
              exact s3 _ _ (e3 b o n1 n2 e)
        · rintro H2 ⟨e1, e2, e3⟩
          refine ⟨e2, L, _, rfl, SqL.of (by rw [upd_ne nLa]; exact e1), ?_⟩
          have el : l.take (sk l).length = l := by unfold sk; rw [List.length_map]; exact List.take_length
          rw [el]
          have s2 : Same H (upd H2 a (.dK (sk l))) := fun b o e => by
            by_cases hb : b = a
            · rw [hb, upd_same]; rw [hb, h] at e; exact e
            · rw [upd_ne hb]; exact e3 b o (ne_of_none e nL0) hb e
          generalize (upd H2 a (.dK (sk l))) = H3 at s2
          have ea : ((l.map fun p => wordB p.1).all id) = (l.map (·.1)).all wordB := by
            rw [List.all_map, List.all_map]; rfl
          rw [ea]
          refine ⟨_, rfl, ?_⟩
          cases hw : (l.map (·.1)).all wordB with
          | false =>
            have e : partB l = false := by unfold partB; rw [hw, Bool.and_false, Bool.false_and]
            rw [e] at q
            exact q H3 s2
          | true =>
            have e : partB l = l.all (entB l) := by unfold partB; rw [hne, hw]; rfl
            rw [e] at q
            show if (!true) = true then _ else _
            rw [if_neg (by decide)]
            have h3 := s2 _ _ h
            refine ⟨a, _, h3, True.intro, fun od2 => ⟨_, rfl, a, od2, _, rfl, upd_same, ?_⟩⟩
            refine for_items (fun i σ H4 => ∃ v1 v2, σ = [some (.ref a), v1, v2] ∧ Same (upd H3 a (.frz od2 (.dK (sk l)))) H4 ∧ (l.take i).all (entB l) = true) ⟨none, none, rfl, Same.refl _, rfl⟩ (fun i σ H4 ⟨_, _, _, s4, _⟩ => s4 _ _ upd_same) ?_ ?_
            · rintro i k v T σ H4 hkv nT ⟨v1, v2, rfl, s4, hall⟩
              obtain ⟨p, hp, rfl, rfl⟩ : ∃ p, l[i]? = some p ∧ k = Sum.inr p.1 ∧ v = p.2 := by
                unfold sk at hkv
                rw [List.getElem?_map] at hkv
                cases hp : l[i]? with
                | none => rw [hp] at hkv; cases hkv
                | some p =>
                  rw [hp] at hkv
                  have := Option.some.inj hkv
                  exact ⟨p, rfl, (congrArg Prod.fst this).symm, (congrArg Prod.snd this).symm⟩
              have hpm := List.mem_of_getElem? hp
              refine ⟨T, _, rfl, SqT.of upd_same, rfl, _, _, rfl, _, _, rfl, rfl, ?_⟩
              have s5 : Same (upd H3 a (.frz od2 (.dK (sk l)))) (upd H4 T (.tup [V.str p.1, p.2])) := s4.trans (same_upd nT)
              obtain ⟨kd, hkd, hok⟩ := hv p hpm
              have is5 : Is (upd H4 T (.tup [V.str p.1, p.2])) p.2 kd := ((hkd.same s2).lock (o := .frz od2 (.dK (sk l))) hok h3).same s5
              have a5 : (upd H4 T (.tup [V.str p.1, p.2])) a = some (.frz od2 (.dK (sk l))) := s5 _ _ upd_same
              have q5 : ∀ {r : Bool}, l.all (entB l) = r → Q (.bl r) (upd (upd H4 T (.tup [V.str p.1, p.2])) a (.dK (sk l))) := fun {r} er => by
                rw [er] at q
                exact q _ (s2.trans (Same.lock h3 s5))
              refine ⟨_, rfl, _, _, _, _, _, rfl, .ty "str", is5.ty, kit_str kd, _, rfl, ?_⟩
              cases hsk : isStrK kd with
              | false =>
                refine ⟨a5, q5 (all_no hpm (entB_no hkd hsk))⟩
              | true =>
                obtain ⟨y, rfl⟩ : ∃ y, kd = .str y := by
                  cases kd with
                  | str z => exact ⟨z, rfl⟩
                  | _ => cases hsk
                have ey := hkd.str_inv
                show if (!true) = true then _ else _
                rw [if_neg (by decide)]
                refine ⟨_, rfl, _, rfl, a, _, rfl, .inl ⟨_, Sum.inr y, .inr ⟨od2, a5⟩, by rw [ey]; rfl, rfl⟩, _, rfl, ?_⟩
                rw [sk_val]
                cases hlk : look l y with
                | none =>
                  refine ⟨a5, q5 (all_no hpm ?_)⟩
                  rw [entB_str ey, hlk]
                | some v =>
                  show if (!true) = true then _ else _
                  rw [if_neg (by decide)]
                  have hvm : (y, v) ∈ l := look_mem hlk
                  obtain ⟨kd2, hkd2, hok2⟩ := hv (y, v) hvm
                  obtain ⟨d2, dp2, sh2, eq2⟩ := is_dp (K := K) (((hkd2.same s2).lock (o := .frz od2 (.dK (sk l))) hok2 h3).same s5) hok2
                  refine ⟨_, rfl, _, rfl, a, v, rfl, ?_, _, rfl, d2, .str p.1, dp2, .str p.1, sh2, ?_, _, rfl, ?_⟩
                  · exact .inl ⟨_, Sum.inr y, .inr ⟨od2, a5⟩, by rw [ey]; rfl, by rw [sk_val, hlk]⟩
                  · unfold SeqAt.shaped
                    simp [PyData.canLay0, PyData.depth]
                    exact (hk p hpm).2
                  rw [eq2 p.1]
                  cases he : eqS v p.1 with
                  | false =>
                    refine ⟨a5, q5 (all_no hpm ?_)⟩
                    rw [entB_str ey, hlk]
                    exact he
                  | true =>
                    refine ⟨_, _, rfl, s5, ?_⟩
                    rw [List.take_add_one, hp, List.all_append, hall]
                    simp only [Option.toList, List.all_cons, List.all_nil, Bool.and_true, Bool.true_and]
                    rw [entB_str ey, hlk]
                    exact he
            · rintro σ H4 ⟨v1, v2, rfl, s4, hall⟩
              refine ⟨s4 _ _ upd_same, ?_⟩
              have el : l.take (sk l).length = l := by unfold sk; rw [List.length_map]; exact List.take_length
              rw [el] at hall
              rw [hall] at q
              exact q _ (s2.trans (Same.lock h3 s4))
end
end K1

set_option Elab.async false
set_option linter.all false
set_option maxRecDepth 100000
set_option maxHeartbeats 1000000
namespace K1
open PySem PySem.Spec PyProof.Rows L2
/-! ### a dict with None among its keys -/
def okV : Option Key → V
  | none => .non
  | some k => kV k
def nkO (P : Program) (w : World) (a : Addr) (okvs : List (Option Key × V)) : HO :=
  .ext fun h => okvs.length ≤ sizeLine ∧ (a == sysModules) = false ∧ ∃ vs, KV okvs vs ∧ h.DictOf (noneKind P w) a vs
def optK {β : Type} (kvs : List (Key × β)) : List (Option Key × β) := kvs.map fun p => (some p.1, p.2)
theorem kv_opt : ∀ {kvs : List (Key × V)} {vs : List (Key × Value)}, KV kvs vs → KV (optK kvs) (optK vs)
  | _, _, .nil => .nil
  | _, _, .cons r t => .cons ⟨congrArg some r.1, r.2⟩ (kv_opt t)
theorem opt_nodup : ∀ {vs : List (Key × Value)}, (vs.map (·.1)).Nodup → ((optK vs).map (·.1)).Nodup
  | [], _ => List.nodup_nil
  | p :: r, h => by
    rw [List.map_cons, List.nodup_cons] at h
    show ((some p.1) :: (optK r).map (·.1)).Nodup
    refine List.nodup_cons.mpr ⟨fun hm => h.1 ?_, opt_nodup h.2⟩
    obtain ⟨q, hq, e⟩ := List.mem_map.mp hm
    obtain ⟨q', hq', rfl⟩ := List.mem_map.mp hq
    have e' : q'.1 = p.1 := Option.some.inj e
    rw [← e']
    exact List.mem_map_of_mem hq'
theorem dict_opt {P : Program} {w : World} {h : Heap} {a : Addr} {vs : List (Key × Value)} (d : h.DictOf (mixKind P w) a vs) : h.DictOf (noneKind P w) a (optK vs) := by
  obtain ⟨o, es, ep, ho, hx, hdt, hk, hp, hn⟩ := d
  refine ⟨o, es, ep, ho, hx, hdt, fun e he => ?_, ?_, opt_nodup hn⟩
  · obtain ⟨k, h1, h2⟩ := hk e he
    exact ⟨some k, h1, h2⟩
  · clear hdt hk hn
    revert hp
    generalize es.toList = l
    intro hp
    induction hp with
    | nil => exact .nil
    | cons h1 h2 t ih => exact .cons h1 h2 ih
theorem stored_new {κ : Type} [DecidableEq κ] {kvs : List (κ × Value)} {k : κ} (v : Value) (h : ∀ p ∈ kvs, p.1 ≠ k) : stored kvs k v = kvs ++ [(k, v)] := by
  unfold stored
  rw [if_neg]
  intro e
  obtain ⟨p, hp, e⟩ := List.any_eq_true.mp e
  exact h p hp (by simpa using e)
section
variable {X : Cx} {pins : List (Addr × Obj)} {σ : L2.St} {H : Hp} {s : Shared} {a : Addr} {A : Around} {E : Value → Shared → Prop}
theorem nk_new {P : Program} {w : World} {H' : Hp} {h' : Heap} {okvs : List (Option Key × V)} {vs : List (Option Key × Value)} (z : okvs.length ≤ sizeLine) (hd : (a == sysModules) = false) (rel : KV okvs vs) (dd : h'.DictOf (noneKind P w) a vs) :
    ObjOk P w H' h' a (nkO P w a okvs) := by
  refine ⟨⟨z, hd, vs, rel, dd⟩, let ⟨q, _, _, hq, _⟩ := dd; ⟨q, hq⟩, fun h1 h2 ⟨z, hd, vs, rel, o, es, ep, ho, r⟩ k => ⟨z, hd, vs, rel, o, es, ep, k _ ho, r⟩⟩
/-- d[None] = v -/
theorem d_setNone {kvs : List (Key × V)} {v : V} {r : Value} {Q : Unit → Shared → Prop} (I : Inv X pins σ H s) (e : H a = some (.dK kvs)) (hl : kvs.length < sizeLine) (rv : RelV v r)
    (h : ∀ s', Inv X pins σ (upd H a (nkO X.prog X.w a (optK kvs ++ [(none, v)]))) s' → Q () s') : wpAny (model X.prog X.w) A (setItem (.ref a) .none r) Q E s := by
  obtain ⟨z, hd, vs, rel, dd⟩ := dk_of I.hok e
  have hz : (optK vs).length ≤ sizeLine := by unfold optK; rw [List.length_map, ← rel.length]; exact z
  refine wpAny_setItem_pairs (knd := noneKind X.prog X.w) (k := none) (hsz := hz) rfl (dict_opt dd) fun h' dd' hs => h _ ?_
  have he : ∃ q, h'.get? a = some q := let ⟨q, _, _, hq, _⟩ := dd'; ⟨q, hq⟩
  rw [stored_new r (fun p hp => by
    obtain ⟨q, _, rfl⟩ := List.mem_map.mp hp
    exact fun z => nomatch z)] at dd'
  refine d_write I (by rw [e]; exact True.intro) hs he (nk_new ?_ hd ?_ dd')
  · rw [List.length_append]; unfold optK; rw [List.length_map]; show kvs.length + 1 ≤ _; omega
  · have h1 := kv_opt rel
    have app : ∀ {xs : List (Option Key × V)} {ys : List (Option Key × Value)}, KV xs ys → KV (xs ++ [(none, v)]) (ys ++ [(none, r)]) := fun {xs ys} q => by
      unfold KV at q
      induction q with
      | nil => exact .cons ⟨rfl, rv⟩ .nil
      | cons r t ih => exact .cons r ih
    exact app h1
end
section
variable {X : Cx}
/-- a store into a dict: the key an int or a text, or None -/
def rSetN (P : Program) (w : World) : TSet := fun o i v H Q => ∃ a kvs, o = .ref a ∧ H a = some (.dK kvs) ∧ kvs.length < sizeLine ∧ ((∃ k, i = kV k ∧ Q (upd H a (.dK (putK kvs k v)))) ∨ (i = .non ∧ Q (upd H a (nkO P w a (optK kvs ++ [(none, v)])))))
theorem set_n (hu : X.A.units + 1 < cLine) : PSet X (rSetN X.prog X.w) := by
  intro pins s σ H o i v ov iv u Q I ro ri rv h
  obtain ⟨a, kvs, rfl, e, hl, h⟩ := h
  obtain rfl : ov = Value.ref a := ro
  rcases h with ⟨k, rfl, q⟩ | ⟨rfl, q⟩
  · exact d_setItem hu I (DPut.k e hl) ri rv fun s' I' => ⟨_, I', q⟩
  · obtain rfl : iv = Value.none := ri
    exact d_setNone I e hl rv fun s' I' => ⟨_, I', q⟩
/-- isinstance of such a dict -/
theorem call_isiN : CallR X (.builtin "isinstance") (fun xs H Q => rIsi X.K xs H Q ∨ ∃ a okvs, xs = [.ref a, .ty "dict"] ∧ H a = some (nkO X.prog X.w a okvs) ∧ Q (.bl true) H) := by
  intro pins s σ H xs us Q I r h
  rcases h with h | ⟨a, okvs, rfl, e, q⟩
  · exact call_isi pins s σ H xs us Q I r h
  · obtain ⟨u1, u2, rfl, r1, r2⟩ := vals2 r
    obtain rfl : u1 = Value.ref a := r1
    obtain rfl : u2 = Value.type "dict" := r2
    obtain ⟨⟨_, _, vs, _, o, es, ep, h1, h2, _⟩, _, _⟩ := I.hok a _ e
    exact PySem.W.kia_one (PySem.W.kitx_dict) I.kIn (⟨o, h1, h2.1⟩ : _) (kit_ty (a := "dict") (b := "dict") (r := true) (by decide +kernel)) (by intro z; nomatch z) fun tk => ⟨.bl true, H, I.tok tk, rfl, q⟩
end
/-! ### its keys, walked while it is locked; its values, read -/
def ItkN (P : Program) (w : World) (d : Addr) (o : Obj) (okvs : List (Option Key × V)) : It :=
  ⟨fun i H => H d = some (.frz o (nkO P w d okvs)) ∧ i < okvs.length, fun i H x H' => H' = H ∧ ∃ k v, okvs[i]? = some (k, v) ∧ x = okV k, fun i H => H d = some (.frz o (nkO P w d okvs)) ∧ okvs.length ≤ i⟩
section
variable {X : Cx} {pins : List (Addr × Obj)} {σ : L2.St} {H : Hp} {s : Shared} {d : Addr} {o : Obj}
theorem frzN {okvs : List (Option Key × V)} (I : Inv X pins σ H s) (h : H d = some (.frz o (nkO X.prog X.w d okvs))) :
    (d == sysModules) = false ∧ s.heap.get? d = some o ∧ o.ExactDict ∧ ∃ (es : Array DictEntry) (ep : Nat) (vs : List (Option Key × Value)), o.data = .dict es ep ∧ es.size = okvs.length ∧ KV okvs vs ∧ s.heap.DictAt (noneKind X.prog X.w) d vs ep := by
  obtain ⟨hd, ⟨z, hs, vs, kv, o', es, ep, ho, hx, hdt, r⟩, _, _⟩ := I.hok d _ h
  rw [hd] at ho
  cases ho
  refine ⟨hs, hd, hx, es, ep, vs, hdt, ?_, kv, o, es, hd, hx, hdt, r⟩
  have l1 := r.2.1.length
  have l2 : okvs.length = vs.length := Paired.length kv
  rw [Array.length_toList] at l1
  omega
theorem relV_okey {k : Option Key} {u : Value} (h : nkIs k u = true) : RelV (okV k) u := by
  cases k with
  | none => exact nk_none h
  | some k => exact relV_key h
end
section
variable {P : Program} {w : World} {K : PySem.W.Frag} {tg : Expr} {d : Addr} {o : Obj} {es : Array DictEntry} {ep : Nat}
theorem turn_keysN {okvs : List (Option Key × V)} (it : Addr) (hod : o.data = .dict es ep) : Turn P w K tg (ItkN P w d o okvs) [it] it (fun i h => h.IsKeyIter it d i okvs.length ep) where
  mem := by simp
  obj := fun i h st b hb => by
    have e : b = it := by simpa using hb
    subst e
    obtain ⟨oi, e, c, dd⟩ := st
    exact ⟨oi, e, fun v z => by rw [dd] at z; cases z⟩
  keep := fun i h h' st k => st.at fun oi e => k it (by simp) oi e
  item := by
    intro X hP hw hK hc i pins s σ H E I hf st hg
    subst hP hw hK
    obtain ⟨hd, hi⟩ := hg
    obtain ⟨f0, f1, f2, f3, f4, f5⟩ := hf it (by simp)
    obtain ⟨hs, hgd, hx, es', ep', vs, hdt, hsz, kv, hm⟩ := frzN I hd
    obtain ⟨rfl, rfl⟩ := dict_ep hod hdt
    obtain ⟨⟨k, v⟩, hkv⟩ : ∃ p, okvs[i]? = some p := ⟨okvs[i], List.getElem?_eq_getElem hi⟩
    obtain ⟨u, hu, ru⟩ := kv_get kv hkv
    have hl : okvs.length = vs.length := Paired.length kv
    rw [hl] at st
    refine wpAny_pyNext_dict_item st hm hu fun key h' hkey st' sb => ?_
    have I1 : Inv X pins σ H { s with heap := h' } := I.turned (t' := s.toks) (fun b ob hb e => (sb.2 b hb).trans e) f0 f1 f3 f4 f5
    obtain ⟨oi, e, c, dd⟩ := id st'
    refine ⟨key, rfl, go_of (s := { s with heap := h' }) e c dd (by decide) ⟨okV k, H, I1, relV_okey (show nkIs k key = true from hkey), ⟨rfl, k, v, hkv, rfl⟩, ?_, fun b hb => (hf b hb).1⟩⟩
    show h'.IsKeyIter it d (i + 1) okvs.length _
    rw [hl]
    exact st'
  done := by
    intro X hP hw hK hc i pins s σ H E I hf st hg
    subst hP hw hK
    obtain ⟨hd, hi⟩ := hg
    obtain ⟨f0, f1, f2, f3, f4, f5⟩ := hf it (by simp)
    obtain ⟨hs, hgd, hx, es', ep', vs, hdt, hsz, kv, hm⟩ := frzN I hd
    obtain ⟨rfl, rfl⟩ := dict_ep hod hdt
    exact next_key_end (I.ok.hd hc) st hgd hdt hsz hi fun h' eb => ⟨rfl, I.turned (t' := s.toks) (fun b ob hb e => eb b ob hb e) f0 f1 f3 f4 f5⟩
  self := fun A i s Q E st h => wpAny_pyIter_keyiter st h
end
section
variable {X : Cx} {tg e o i : Expr} {td ty : TE} {pos : Pos}
def iKeysN (P : Program) (w : World) (td : TE) : TI := fun σ H R => td σ H fun x H1 => ∃ d o, x = .ref d ∧ ((∃ kvs, H1 d = some (.frz o (.dK kvs)) ∧ R (Itk d o kvs) H1) ∨ ∃ okvs, H1 d = some (.frz o (nkO P w d okvs)) ∧ R (ItkN P w d o okvs) H1)
theorem pi_keysN (he : PE X e td) : PI X tg e (iKeysN X.prog X.w td) := by
  refine ⟨fun pins s σ H R I h => ?_⟩
  refine thn (he.run pins s σ H _ I h) fun u s1 ⟨x, H1, I1, rx, d, o, ex, q⟩ => ?_
  subst ex
  obtain rfl : u = Value.ref d := rx
  rcases q with ⟨kvs, hd, q⟩ | ⟨okvs, hd, q⟩
  · obtain ⟨hs, hgd, hx, es, ep, vs, hdt, hsz, kv, hm⟩ := I1.frzK hd
    refine iter_keys hs hgd hx hdt (pi_one (tk := s1.toks) I1 _ (turn_keys _ hdt) ⟨_, Heap.get?_push_size _ rfl, rfl, ?_⟩ q)
    rw [hsz] <;> rfl
  · obtain ⟨hs, hgd, hx, es, ep, vs, hdt, hsz, kv, hm⟩ := frzN I1 hd
    refine iter_keys hs hgd hx hdt (pi_one (tk := s1.toks) I1 _ (turn_keysN _ hdt) ⟨_, Heap.get?_push_size _ rfl, rfl, ?_⟩ q)
    rw [hsz] <;> rfl
def tDGetN (P : Program) (w : World) (td ty : TE) : TE := fun σ H Q => td σ H fun x H1 => ty σ H1 fun y H2 => ∃ a v, x = .ref a ∧ (DGet H2 a y (some v) ∨ ∃ okvs k, Rd H2 a (nkO P w a okvs) ∧ y = kV k ∧ valV okvs (some k) = some v) ∧ Q v H2
theorem pe_dgetN (hu : X.A.units + 1 < cLine) (ho : PE X o td) (hi : PE X i ty) (hs : NoSl i) : PE X (.Subscript o i pos) (tDGetN X.prog X.w td ty) := by
  refine ⟨fun pins s σ H Q I h => ?_⟩
  refine subD_of PySem.F.slot_dict_getitem.lookup hs (thn (ho.run pins s σ H _ I h) fun u s1 ⟨x, H1, I1, rx, q1⟩ => thn (hi.run pins s1 σ H1 _ I1 q1) fun iv s2 ⟨y, H2, I2, ry, a, v, ex, g, q2⟩ => ?_)
  subst ex
  obtain rfl : u = Value.ref a := rx
  rcases g with g | ⟨okvs, k, e, rfl, l⟩
  · exact ⟨dict_typeIs I2 g, d_getItem hu I2 g ry fun w' s3 I3 rw' => ⟨v, H2, I3, rw', q2⟩⟩
  · obtain ⟨⟨z, hd, vs, rel, dd⟩, _, _⟩ := (show ObjOk X.prog X.w H2 s2.heap a (nkO X.prog X.w a okvs) from e.ok I2.hok)
    obtain ⟨w', hw, rw'⟩ := RelO.some_of (v := v) (o := valueAt vs (some k)) (by rw [← l]; exact rel.val (some k))
    exact ⟨dd.typeIs, wpAny_getItem_of (knd := noneKind X.prog X.w) (k := some k) (kV_is (P := X.prog) (w := X.w) ry) dd.mapOf hw ⟨v, H2, I2.tok _, rw', q2⟩⟩
end
theorem lc_keysN {P : Program} {w : World} {d : Addr} {o : Obj} {kvs : List (Option Key × V)} {g : TG} {tt : TT} {te : TE} {vs : List Nat} {σ : L2.St} {H1 : Hp} {D : Addr} {Qd : Hp → Prop} (Pv : Nat → Hp → Prop) (h0 : Pv 0 (upd H1 D (.lst []))) (hl : ∀ i H, Pv i H → H d = some (.frz o (nkO P w d kvs)))
    (hs : ∀ i k v H, kvs[i]? = some (k, v) → Pv i H → g (okV k) (wipe σ vs) H fun σ2 H2 => wipe σ2 vs = wipe σ vs ∧ tt σ2 H2 fun b H3 =>
      if b = true then te σ2 H3 fun y H4 => ∃ acc, H4 D = some (.lst acc) ∧ acc.length < sizeLine ∧ Pv (i + 1) (upd H4 D (.lst (acc ++ [y]))) else Pv (i + 1) H3) (hd : ∀ H, Pv kvs.length H → Qd H) :
    ∃ W : Nat → Nat → Hp → Prop, (∃ m, W 0 m (upd H1 D (.lst []))) ∧ ∀ i m H, W i m H →
      ((ItkN P w d o kvs).stop i H ∧ Qd H) ∨ ((ItkN P w d o kvs).go i H ∧ ∃ Nx : Hp → Prop, (∀ H', Nx H' → ∃ m', m' < m ∧ W (i + 1) m' H') ∧ ∀ x H', (ItkN P w d o kvs).yld i H x H' → g x (wipe σ vs) H' fun σ2 H2 => wipe σ2 vs = wipe σ vs ∧ tt σ2 H2 fun b H3 =>
        if b = true then te σ2 H3 fun y H4 => ∃ acc, H4 D = some (.lst acc) ∧ acc.length < sizeLine ∧ Nx (upd H4 D (.lst (acc ++ [y]))) else Nx H3) := by
  refine ⟨fun i m H => m = kvs.length - i ∧ i ≤ kvs.length ∧ Pv i H, ⟨kvs.length, by simp, Nat.zero_le _, h0⟩, ?_⟩
  rintro i m H ⟨rfl, hi, p⟩
  have q := hl i H p
  by_cases hlt : i < kvs.length
  · refine .inr ⟨⟨q, hlt⟩, Pv (i + 1), fun H' p' => ⟨kvs.length - (i + 1), by omega, rfl, hlt, p'⟩, fun x H' y => ?_⟩
    obtain ⟨e, k, v, hk, ex⟩ := y
    subst e
    subst ex
    exact hs i k v _ hk p
  · have e : i = kvs.length := by omega
    subst e
    exact .inl ⟨⟨q, Nat.le_refl _⟩, hd H p⟩
end K1

set_option Elab.async false
set_option linter.all false
set_option maxRecDepth 100000
set_option maxHeartbeats 1000000
namespace K1
open PySem PySem.Spec PyProof.Rows L2
theorem lt_same : ∀ a b : List Nat, ltCps a b = false → ltCps b a = false → a = b
  | [], [], _, _ => rfl
  | [], _ :: _, h, _ => by cases h
  | _ :: _, [], _, h => by cases h
  | a :: r, b :: t, h1, h2 => by
    unfold ltCps at h1 h2
    rw [Bool.or_eq_false_iff, Bool.and_eq_false_iff] at h1 h2
    have x1 := of_decide_eq_false h1.1
    have x2 := of_decide_eq_false h2.1
    have e : a = b := by omega
    subst e
    have y1 : ltCps r t = false := by
      rcases h1.2 with q | q
      · simp at q
      · exact q
    have y2 : ltCps t r = false := by
      rcases h2.2 with q | q
      · simp at q
      · exact q
    rw [lt_same r t y1 y2]
theorem le_trans : ∀ a b c : List Nat, ltCps b a = false → ltCps c b = false → ltCps c a = false
  | [], _, [], _, _ => rfl
  | _ :: _, [], [], h, _ => by cases h
  | [], _, _ :: _, _, _ => rfl
  | _ :: _, _ :: _, [], _, h => by cases h
  | _ :: _, [], _ :: _, h, _ => by cases h
  | x :: a, y :: b, z :: c, h1, h2 => by
    unfold ltCps at h1 h2 ⊢
    rw [Bool.or_eq_false_iff, Bool.and_eq_false_iff] at h1 h2 ⊢
    have x1 := of_decide_eq_false h1.1
    have x2 := of_decide_eq_false h2.1
    refine ⟨decide_eq_false (by omega), ?_⟩
    by_cases e : z = x
    · have e1 : y = x := by omega
      subst e
      subst e1
      refine .inr (le_trans a b c ?_ ?_)
      · rcases h1.2 with q | q
        · simp at q
        · exact q
      · rcases h2.2 with q | q
        · simp at q
        · exact q
    · exact .inl (by simpa using e)
def leS (a b : Str) : Prop := ltCps b.cps.toList a.cps.toList = false
theorem leS_trans {a b c : Str} (h1 : leS a b) (h2 : leS b c) : leS a c := le_trans _ _ _ h1 h2
theorem str_ext {a b : Str} (h : a.cps.toList = b.cps.toList) : a = b := by
  obtain ⟨⟨l⟩⟩ := a
  obtain ⟨⟨m⟩⟩ := b
  have h : l = m := h
  rw [h]
theorem leS_anti {a b : Str} (h1 : leS a b) (h2 : leS b a) : a = b := str_ext (lt_same _ _ h2 h1)
theorem rising_le : ∀ {p : Str} {l : List Str}, risingS p l = true → ∀ x ∈ l, leS p x
  | p, [], _, x, hx => by cases hx
  | p, y :: r, h, x, hx => by
    have h : (!ltCps y.cps.toList p.cps.toList && risingS y r) = true := h
    rw [Bool.and_eq_true, Bool.not_eq_true'] at h
    rcases List.mem_cons.mp hx with e | e
    · rw [e]; exact h.1
    · exact leS_trans h.1 (rising_le h.2 x e)
theorem sorted_head {x : Str} {r : List Str} (h : sortedS (x :: r) = true) : ∀ y ∈ x :: r, leS x y := fun y hy => by
  rcases List.mem_cons.mp hy with e | e
  · rw [e]
    show ltCps x.cps.toList x.cps.toList = false
    have q : ∀ l : List Nat, ltCps l l = false := fun l => by
      induction l with
      | nil => rfl
      | cons a r ih => unfold ltCps; simp [ih]
    exact q _
  · exact rising_le h y e
theorem sorted_tail {x : Str} {r : List Str} (h : sortedS (x :: r) = true) : sortedS r = true := by
  cases r with
  | nil => rfl
  | cons y t =>
    have h : (!ltCps y.cps.toList x.cps.toList && risingS y t) = true := h
    rw [Bool.and_eq_true] at h
    exact h.2
theorem sorted_one : ∀ {a b : List Str}, sortedS a = true → sortedS b = true → a.Perm b → a = b
  | [], b, _, _, p => by rw [List.Perm.nil_eq p]
  | x :: r, [], _, _, p => by cases p.symm.nil_eq
  | x :: r, y :: t, h1, h2, p => by
    have e : x = y := leS_anti (sorted_head h1 y (p.mem_iff.mpr (by simp))) (sorted_head h2 x (p.mem_iff.mp (by simp)))
    subst e
    rw [sorted_one (sorted_tail h1) (sorted_tail h2) (List.Perm.cons_inv p)]
end K1

set_option Elab.async false
set_option linter.all false
set_option maxRecDepth 100000
set_option maxHeartbeats 1000000
namespace K1
open PySem PySem.Spec PyProof.Rows L2
/-- an end's kind -/
def endB (l : List (Str × V)) (x : V) : Bool := match x with
  | .str z => (look l z).isSome
  | _ => false
def endsB (l : List (Str × V)) : Kd → Bool
  | .tup xs => decide (1 ≤ xs.length) && decide (xs.length ≤ 4) && xs.all (endB l)
  | _ => false
theorem sOk_is {H : Hp} {x : V} (h : sOk x) : (∃ z, x = .str z) ∨ ∃ i, x = .int i := by
  cases x with
  | str z => exact .inl ⟨z, rfl⟩
  | int i => exact .inr ⟨i, rfl⟩
  | _ => exact h.elim
/-- a dict, its keys texts -/
structure Pd (H : Hp) (a : Addr) (l : List (Str × V)) : Prop where
  at_ : H a = some (.dK (sk l))
section
variable {P : Program} {w : World} {K : PySem.W.Frag} {mg : Str → Option Value} {base : Heap}
def spAreEnds : Sp := fun vs H Q _ => ∃ (a : Addr) (l : List (Str × V)) (x : V) (k : Kd), vs = [.ref a, x] ∧ H a = some (.dK (sk l)) ∧ Is H x k ∧ kOk k ∧ (∀ xs, k = .tup xs → xs.length ≤ 100) ∧ ∀ H', Same H H' → Q (.bl (endsB l k)) H'
theorem ok_areEnds {f : Addr} {fd : FuncData} (F : Fun K "_are_ends" "_are_ends" sAreEnds f fd) (B : Bi mg) : FnOk P w K mg base CX0 1 f fd ["partners", "ends"] spAreEnds := by
  obtain ⟨tk, hme⟩ := B.me
  refine F.ok scAreEnds (fun vs H Q E h => ?_) (fun cdv A outer s H vs Q E hr h => ?_)
  · obtain ⟨a, l, x, k, rfl, _⟩ := h
    rfl
  · obtain ⟨a, l, x, k, rfl, ha, hx, ok, hlen, q⟩ := h
    have hu := hu_of hr
    refine ⟨_, pss_cons (ps_if (PW.pt (pw_or (pt_not (pt_val (pe_callB call_isi (by rfl) B.isi boot_isinstance (pa_cons (pv 1) (pa_cons (pe_bltn (by rfl) B.tuple boot_tuple (v := .ty "tuple") rfl) pa_nil)))))
        (pw_or1 (pt_not (pt_chain op_le op_le pe_int (pe_callB call_len_seq (by rfl) B.len PySem.boot_len (pa_cons (pv 1) pa_nil)) (pe_glob rfl hme (v := .int 4) ⟨_, rfl⟩)))))) (pss_one (ps_ret pe_bl)) pss_nil)
      (pss_one (ps_ret (pe_callB (cr_all rfl) (by rfl) B.all boot_all (pa_cons
        (pe_lc (own := [("kind", 2)]) (g := gName 2) (tt := tYes) rfl scAreEnds.nd (pi_tup (pv 1)) (blkOk_by (own := [("kind", 2)]) (N := ["partners", "ends", "kind"]) (sc := defScope sAreEnds) (by decide +kernel))
          (fun _ _ _ _ _ => pg_name (i := 2) scAreEnds.nd rfl (Or.inl rfl)) (fun _ _ _ _ _ => pts_nil)
          (fun _ _ _ _ _ => pe_and (pe_callB (show CallR _ _ (rIsi K) from call_isi) (by rfl) B.isi boot_isinstance (pa_cons (pv 2) (pa_cons (pe_bltn (by rfl) B.str boot_str (v := .ty "str") rfl) pa_nil))) (pe_one (pe_cmp (pc_din hu (pv 2) (pv 0)))))) pa_nil)))), ?_⟩
    refine ⟨_, rfl, _, _, _, _, _, rfl, .ty "tuple", hx.ty, kit_tup k, _, rfl, ?_⟩
    cases hk : isTupK k with
    | false =>
      have e : endsB l k = false := by cases k <;> first | rfl | cases hk
      rw [e] at q
      exact q H (Same.refl _)
    | true =>
      obtain ⟨xs, rfl⟩ : ∃ xs, k = .tup xs := by
        cases k with
        | tup xs => exact ⟨xs, rfl⟩
        | _ => cases hk
      obtain ⟨t, rfl, ht⟩ : ∃ t, x = .ref t ∧ H t = some (.tup xs) := by
        cases hx with
        | tup h => exact ⟨_, rfl, h⟩
      have hn := hlen xs rfl
      show if (!true) = true then _ else _
      rw [if_neg (by decide)]
      refine ⟨_, rfl, t, xs, rfl, .inr (SqT.of ht), _, _, rfl, rfl, _, rfl, ?_⟩
      by_cases h1 : (1 : Int) ≤ (xs.length : Int)
      · rw [decide_eq_true h1, if_pos rfl]
        refine ⟨_, _, rfl, rfl, _, rfl, ?_⟩
        by_cases h2 : (xs.length : Int) ≤ 4
        · rw [decide_eq_true h2]
          show if (!true) = true then _ else _
          rw [if_neg (by decide)]
          have hw : endsB l (.tup xs) = (xs.map (endB l)).all id := by
            show (decide (1 ≤ xs.length) && decide (xs.length ≤ 4) && xs.all (endB l)) = _
            rw [decide_eq_true (show 1 ≤ xs.length by omega), decide_eq_true (show xs.length ≤ 4 by omega), Bool.true_and, Bool.true_and, List.all_map]
            rfl
          refine ⟨_, rfl, t, rfl, ⟨_, SqT.of ht⟩, fun L nL => lc_tup (K := K) (a := t) (xs := xs) (fun i H2 => H2 = upd H L (.lst (((xs.take i).map (endB l)).map V.bl))) rfl (fun i H2 _ e => by rw [e]; exact SqT.of (by rw [upd_ne (ne_of_none ht nL)]; exact ht)) ?_ ?_⟩
          · rintro i y H2 hy rfl
            have hyo : sOk y := ok y (List.mem_of_getElem? hy)
            have hi : i < xs.length := (List.getElem?_eq_some_iff.mp hy).1
            have ha2 : (upd H L (.lst (((xs.take i).map (endB l)).map V.bl))) a = some (.dK (sk l)) := by rw [upd_ne (ne_of_none ha nL)]; exact ha
            have fin : ∀ b, endB l y = b → ∃ acc, (upd H L (.lst (((xs.take i).map (endB l)).map V.bl))) L = some (.lst acc) ∧ acc.length < sizeLine ∧ upd (upd H L (.lst (((xs.take i).map (endB l)).map V.bl))) L (.lst (acc ++ [.bl b])) = upd H L (.lst (((xs.take (i + 1)).map (endB l)).map V.bl)) := fun b hb => by
              refine ⟨_, upd_same, ?_, ?_⟩
              · rw [List.length_map, List.length_map, List.length_take]
                exact small1000 (by omega)
              · rw [upd_upd, List.take_add_one, hy, List.map_append, List.map_append, ← hb]
                rfl
            rcases sOk_is (H := H) hyo with ⟨z, rfl⟩ | ⟨j, rfl⟩
            · refine ⟨rfl, _, rfl, _, _, _, _, _, rfl, .ty "str", (Is.str z).ty, kit_str _, true, rfl, ?_⟩
              rw [if_pos rfl]
              refine ⟨_, rfl, _, rfl, a, _, rfl, DGet.k (k := Sum.inr z) ha2, ?_⟩
              rw [sk_val]
              exact fin _ rfl
            · refine ⟨rfl, _, rfl, _, _, _, _, _, rfl, .ty "str", (Is.int j).ty, kit_str _, false, rfl, ?_⟩
              rw [if_neg Bool.false_ne_true]
              exact fin _ rfl
          · rintro H2 rfl
            refine ⟨L, _, rfl, SqL.of upd_same, ?_⟩
            rw [List.take_length]
            rw [hw] at q
            exact q _ (same_upd nL)
        · rw [decide_eq_false h2]
          have hw : endsB l (.tup xs) = false := by
            show (decide (1 ≤ xs.length) && decide (xs.length ≤ 4) && xs.all (endB l)) = _
            rw [decide_eq_false (show ¬ xs.length ≤ 4 by omega), Bool.and_false, Bool.false_and]
          rw [hw] at q
          exact q _ (Same.refl _)
      · rw [decide_eq_false h1, if_neg Bool.false_ne_true]
        refine ⟨_, rfl, ?_⟩
        have hw : endsB l (.tup xs) = false := by
          show (decide (1 ≤ xs.length) && decide (xs.length ≤ 4) && xs.all (endB l)) = _
          rw [decide_eq_false (show ¬ 1 ≤ xs.length by omega), Bool.false_and, Bool.false_and]
        rw [hw] at q
        exact q _ (Same.refl _)
/-- an entry of the blocks: its key's kind, its value's kind -/
def keyK : Option Key → Kd
  | none => .non
  | some (.inl i) => .int i
  | some (.inr z) => .str z
def bEnt (l : List (Str × V)) (k : Option Key) (kd : Kd) : Bool := wordK (keyK k) && endsB l kd
theorem key_is {H : Hp} (k : Option Key) : Is H (okV k) (keyK k) := by
  cases k with
  | none => exact .non
  | some k => cases k with
    | inl i => exact .int i
    | inr z => exact .str z
theorem keyK_str {k : Option Key} {z : Str} (h : keyK k = .str z) : k = some (.inr z) := by
  cases k with
  | none => cases h
  | some k => cases k with
    | inl i => cases h
    | inr y => cases h; rfl
structure EntV (H : Hp) (l : List (Str × V)) (k : Option Key) (v : V) (b : Bool) : Prop where
  ex : ∃ kd, Is H v kd ∧ kOk kd ∧ (∀ xs, kd = .tup xs → xs.length ≤ 100) ∧ b = bEnt l k kd
  sz : ∀ z, k = some (.inr z) → z.length ≤ sizeLine
theorem EntV.lock {H : Hp} {l : List (Str × V)} {k : Option Key} {v : V} {b : Bool} {d : Addr} {u o : HO} (h : EntV H l k v b) (hd : H d = some u) (hu : (∃ kvs, u = .dK kvs) ∨ ∃ φ, u = .ext φ) : EntV (upd H d o) l k v b := by
  obtain ⟨⟨kd, h1, h2, h3⟩, h4⟩ := h
  refine ⟨⟨kd, ?_, h2, h3⟩, h4⟩
  have ne : ∀ {a xs}, H a = some (.tup xs) ∨ H a = some (.lst xs) → a ≠ d := fun {a xs} q => by
    rcases hu with ⟨kvs, rfl⟩ | ⟨φ, rfl⟩ <;> rcases q with q | q <;> exact ne_of q hd (by intro z; cases z)
  cases h1 with
  | str z => exact .str z
  | int i => exact .int i
  | bl b => exact .bl b
  | non => exact .non
  | tup h => exact .tup (by rw [upd_ne (ne (.inl h))]; exact h)
  | lst h => exact .lst (by rw [upd_ne (ne (.inr h))]; exact h)
  | dct h => exact h2.elim
theorem EntV.same {H H' : Hp} {l : List (Str × V)} {k : Option Key} {v : V} {b : Bool} (h : EntV H l k v b) (e : Same H H') : EntV H' l k v b := by
  obtain ⟨⟨kd, h1, h2, h3⟩, h4⟩ := h
  exact ⟨⟨kd, h1.same e, h2, h3⟩, h4⟩
/-- what _are_blocks answers for a value -/
inductive BlkV (P : Program) (w : World) (H : Hp) (l : List (Str × V)) : V → Bool → Prop
  | no {x : V} {k : Kd} (h : Is H x k) (hk : isDctK k = false) : BlkV P w H l x false
  | dct {a : Addr} {kvs : List (Key × V)} {bs : List Bool} (h : H a = some (.dK kvs)) (hn : (kvs.map (·.1)).Nodup) (hl : kvs.length ≤ 100) (hb : bs.length = kvs.length)
      (he : ∀ (i : Nat) k v b, kvs[i]? = some (k, v) → bs[i]? = some b → EntV H l (some k) v b) : BlkV P w H l (.ref a) (bs.all id)
  | nk {a : Addr} {kvs : List (Option Key × V)} {bs : List Bool} (h : H a = some (nkO P w a kvs)) (hn : (kvs.map (·.1)).Nodup) (hl : kvs.length ≤ 100) (hb : bs.length = kvs.length)
      (he : ∀ (i : Nat) k v b, kvs[i]? = some (k, v) → bs[i]? = some b → EntV H l k v b) : BlkV P w H l (.ref a) (bs.all id)
def spAreBlocks (P : Program) (w : World) : Sp := fun vs H Q _ => ∃ (pa : Addr) (l : List (Str × V)) (x : V) (r : Bool), vs = [.ref pa, x] ∧ H pa = some (.dK (sk l)) ∧ x ≠ .ref pa ∧ BlkV P w H l x r ∧ ∀ H', Same H H' → Q (.bl r) H'
theorem ok_areBlocks {f fW fE : Addr} {fd fdW fdE : FuncData} (F : Fun K "_are_blocks" "_are_blocks" sAreBlocks f fd) (dW : D K mg "is_word" sIsWord ["thing"] fW fdW) (GW : FnOk P w K mg base CX0 2 fW fdW ["thing"] spIsWord)
    (dE : D K mg "_are_ends" sAreEnds ["partners", "ends"] fE fdE) (B : Bi mg) : FnOk P w K mg base CX0 3 f fd ["partners", "blocks"] (spAreBlocks P w) := by
  have GE : FnOk P w K mg base CX0 1 fE fdE ["partners", "ends"] spAreEnds := ok_areEnds dE.F B
  refine F.ok scAreBlocks (fun vs H Q E h => ?_) (fun cdv A outer s H vs Q E hr h => ?_)
  · obtain ⟨a, l, x, k, rfl, _⟩ := h
    rfl
  · obtain ⟨pa, l, x, r, rfl, hpa, hne, hB, q⟩ := h
    have hu := hu_of hr
    have hr1 : Room 1 _ := hr.mono (by decide)
    refine ⟨_, pss_cons (ps_if (pt_not (pt_val (pe_callB call_isiN (by rfl) B.isi boot_isinstance (pa_cons (pv 1) (pa_cons (pe_bltn (by rfl) B.dict boot_dict (v := .ty "dict") rfl) pa_nil))))) (pss_one (ps_ret pe_bl)) pss_nil)
      (pss_one (ps_ret (pe_callB (cr_all rfl) (by rfl) B.all boot_all (pa_cons
        (pe_lock (pe_lc (own := [("name", 2)]) (g := gName 2) (tt := tYes) rfl scAreBlocks.nd (pi_keysN (pv 1)) (blkOk_by (own := [("name", 2)]) (N := ["partners", "blocks", "name"]) (sc := defScope sAreBlocks) (by decide +kernel))
          (fun _ _ _ _ _ => pg_name (i := 2) scAreBlocks.nd rfl (Or.inl rfl)) (fun _ _ _ _ _ => pts_nil)
          (fun _ _ _ _ _ => pe_and (pe_call GW hr (by rfl) dW.m dW.F.kp dW.b .nil pass0 (pa_cons (pv 2) pa_nil)) (pe_one (pe_call GE hr1 (by rfl) dE.m dE.F.kp dE.b .nil pass0 (pa_cons (pv 0) (pa_cons
            (show PE _ _ (tDGetN P w _ _) from pe_dgetN hu (pv 1) (pv 2) (fun _ _ => rfl)) pa_nil))))))) pa_nil)))), ?_⟩
    cases hB with
    | no h hk =>
      refine ⟨_, rfl, .inl ⟨_, _, _, _, _, rfl, .ty "dict", h.ty, kit_dct _, ?_⟩⟩
      refine ⟨_, rfl, ?_⟩
      rw [hk]
      exact q H (Same.refl _)
    | @dct a kvs bs h hn hl hb he =>
      refine ⟨_, rfl, .inl ⟨_, _, _, _, _, rfl, .ty "dict", (Is.dct h).ty, kit_dct _, ?_⟩⟩
      refine ⟨_, rfl, ?_⟩
      show if (!true) = true then _ else _
      rw [if_neg (by decide)]
      refine ⟨a, _, h, True.intro, fun od => ⟨_, rfl, a, od, rfl, .inl ⟨kvs, upd_same, fun L nL => ?_⟩⟩⟩
      have nap : a ≠ pa := fun e => hne (by rw [e])
      have nLa : L ≠ a := fun e => by rw [e, upd_same] at nL; cases nL
      have nL0 : H L = none := by rw [upd_ne nLa] at nL; exact nL
      refine lc_keys (fun i H2 => H2 L = some (.lst ((bs.take i).map V.bl)) ∧ ∀ b o, b ≠ L → (upd H a (.frz od (.dK kvs))) b = some o → H2 b = some o) ⟨upd_same, fun b o n e => by rw [upd_ne n]; exact e⟩ (fun i H2 p => p.2 _ _ nLa.symm upd_same) ?_ ?_
      · rintro i k v H2 hkv ⟨e1, e2⟩
        have hi : i < kvs.length := (List.getElem?_eq_some_iff.mp hkv).1
        have hib : bs[i]? = some bs[i] := List.getElem?_eq_getElem (by omega)
        have hm := List.mem_of_getElem? hkv
        generalize bs[i] = b at hib
        have EV := he i _ v b hkv hib
        have s2 : Same (upd H a (.frz od (.dK kvs))) H2 := fun b o e => e2 b o (ne_of_none e nL) e
        obtain ⟨⟨kd, is1, ok1, len1, eb⟩, sz1⟩ := (EV.lock (o := .frz od (.dK kvs)) h (.inl ⟨_, rfl⟩)).same s2
        have fin : ∀ (H4 : Hp) (b' : Bool), Same H2 H4 → b' = b → ∃ acc, H4 L = some (.lst acc) ∧ acc.length < sizeLine ∧ ((upd H4 L (.lst (acc ++ [V.bl b']))) L = some (.lst ((bs.take (i + 1)).map V.bl)) ∧ ∀ c o, c ≠ L → (upd H a (.frz od (.dK kvs))) c = some o → (upd H4 L (.lst (acc ++ [V.bl b']))) c = some o) := fun H4 b' s4 ebb => by
          refine ⟨_, s4 _ _ e1, ?_, ?_, fun c o n e => ?_⟩
          · rw [List.length_map, List.length_take]
            exact small1000 (by omega)
          · rw [upd_same, List.take_add_one, hib, List.map_append, ebb]
            rfl
          · rw [upd_ne n]
            exact s4 _ _ (e2 c o n e)
        refine ⟨rfl, _, rfl, _, keyK (some k), rfl, key_is (some k), fun z ez => ?_, fun H3 s3 => ⟨_, rfl, ?_⟩⟩
        · exact sz1 z (keyK_str ez)
        · cases hw : wordK (keyK (some k)) with
          | false =>
            refine fin H3 _ s3 ?_
            rw [eb]; unfold bEnt; rw [hw]; rfl
          | true =>
            refine ⟨_, rfl, _, rfl, _, rfl, a, v, rfl, .inl (.inl ⟨kvs, k, .inr ⟨od, s3 _ _ (e2 _ _ nLa.symm upd_same)⟩, rfl, (val_nodup hn (k, v) hm).symm⟩), ?_⟩
            refine ⟨pa, l, v, kd, rfl, s3 _ _ (e2 _ _ (ne_of_none hpa nL0) (by rw [upd_ne nap.symm]; exact hpa)), is1.same s3, ok1, len1, fun H4 s4 => ?_⟩
            refine fin H4 _ (s3.trans s4) ?_
            rw [eb]; unfold bEnt; rw [hw]; rfl
      · rintro H2 ⟨e1, e2⟩
        refine ⟨e2 _ _ nLa.symm upd_same, L, _, rfl, SqL.of (by rw [upd_ne nLa]; exact e1), ?_⟩
        have s2 : Same (upd H a (.frz od (.dK kvs))) H2 := fun b o e => e2 b o (ne_of_none e nL) e
        rw [← hb, List.take_length]
        exact q _ (Same.lock h s2)
    | @nk a kvs bs h hn hl hb he =>
      refine ⟨_, rfl, .inr ⟨a, kvs, rfl, h, ?_⟩⟩
      refine ⟨_, rfl, ?_⟩
      show if (!true) = true then _ else _
      rw [if_neg (by decide)]
      refine ⟨a, _, h, True.intro, fun od => ⟨_, rfl, a, od, rfl, .inr ⟨kvs, upd_same, fun L nL => ?_⟩⟩⟩
      have nap : a ≠ pa := fun e => hne (by rw [e])
      have nLa : L ≠ a := fun e => by rw [e, upd_same] at nL; cases nL
      have nL0 : H L = none := by rw [upd_ne nLa] at nL; exact nL
      refine lc_keysN (fun i H2 => H2 L = some (.lst ((bs.take i).map V.bl)) ∧ ∀ b o, b ≠ L → (upd H a (.frz od (nkO P w a kvs))) b = some o → H2 b = some o) ⟨upd_same, fun b o n e => by rw [upd_ne n]; exact e⟩ (fun i H2 p => p.2 _ _ nLa.symm upd_same) ?_ ?_
      · rintro i k v H2 hkv ⟨e1, e2⟩
        have hi : i < kvs.length := (List.getElem?_eq_some_iff.mp hkv).1
        have hib : bs[i]? = some bs[i] := List.getElem?_eq_getElem (by omega)
        have hm := List.mem_of_getElem? hkv
        generalize bs[i] = b at hib
        have EV := he i _ v b hkv hib
        have s2 : Same (upd H a (.frz od (nkO P w a kvs))) H2 := fun b o e => e2 b o (ne_of_none e nL) e
        obtain ⟨⟨kd, is1, ok1, len1, eb⟩, sz1⟩ := (EV.lock (o := .frz od (nkO P w a kvs)) h (.inr ⟨_, rfl⟩)).same s2
        have fin : ∀ (H4 : Hp) (b' : Bool), Same H2 H4 → b' = b → ∃ acc, H4 L = some (.lst acc) ∧ acc.length < sizeLine ∧ ((upd H4 L (.lst (acc ++ [V.bl b']))) L = some (.lst ((bs.take (i + 1)).map V.bl)) ∧ ∀ c o, c ≠ L → (upd H a (.frz od (nkO P w a kvs))) c = some o → (upd H4 L (.lst (acc ++ [V.bl b']))) c = some o) := fun H4 b' s4 ebb => by
          refine ⟨_, s4 _ _ e1, ?_, ?_, fun c o n e => ?_⟩
          · rw [List.length_map, List.length_take]
            exact small1000 (by omega)
          · rw [upd_same, List.take_add_one, hib, List.map_append, ebb]
            rfl
          · rw [upd_ne n]
            exact s4 _ _ (e2 c o n e)
        refine ⟨rfl, _, rfl, _, keyK k, rfl, key_is k, fun z ez => ?_, fun H3 s3 => ⟨_, rfl, ?_⟩⟩
        · exact sz1 z (keyK_str ez)
        · cases hw : wordK (keyK k) with
          | false =>
            refine fin H3 _ s3 ?_
            rw [eb]; unfold bEnt; rw [hw]; rfl
          | true =>
            obtain ⟨k', rfl⟩ : ∃ k', k = some k' := by
              cases k with
              | none => cases hw
              | some k' => exact ⟨k', rfl⟩
            refine ⟨_, rfl, _, rfl, _, rfl, a, v, rfl, .inr ⟨kvs, k', .inr ⟨od, s3 _ _ (e2 _ _ nLa.symm upd_same)⟩, rfl, val_nodup hn (some k', v) hm⟩, ?_⟩
            refine ⟨pa, l, v, kd, rfl, s3 _ _ (e2 _ _ (ne_of_none hpa nL0) (by rw [upd_ne nap.symm]; exact hpa)), is1.same s3, ok1, len1, fun H4 s4 => ?_⟩
            refine fin H4 _ (s3.trans s4) ?_
            rw [eb]; unfold bEnt; rw [hw]; rfl
      · rintro H2 ⟨e1, e2⟩
        refine ⟨e2 _ _ nLa.symm upd_same, L, _, rfl, SqL.of (by rw [upd_ne nLa]; exact e1), ?_⟩
        have s2 : Same (upd H a (.frz od (nkO P w a kvs))) H2 := fun b o e => e2 b o (ne_of_none e nL) e
        rw [← hb, List.take_length]
        exact q _ (Same.lock h s2)
end
end K1

set_option Elab.async false
set_option linter.all false
set_option maxRecDepth 100000
set_option maxHeartbeats 1000000
namespace K1
open PySem PySem.Spec PyProof.Rows L2
abbrev cSheet : Stmt := topS 14
abbrev sInit : Stmt := inClass cSheet 0
theorem scInit : FnScope ["self", "partners", "blocks", "kind", "name"] ["self", "partners", "blocks"] (defScope sInit) := ⟨rfl, rfl, rfl, by decide +kernel, rfl, by decide +kernel, by decide +kernel⟩
/-- a dict with the same entries, by ascending keys -/
structure SD (l l' : List (Str × V)) : Prop where
  perm : (l'.map (·.1)).Perm (l.map (·.1))
  sorted : sortedS (l'.map (·.1)) = true
  val : ∀ p ∈ l', look l p.1 = some p.2
theorem n12 : ¬ (("_partners" : Str) = "_blocks") := by decide +kernel
theorem n13 : ¬ (("_partners" : Str) = "_names") := by decide +kernel
theorem n23 : ¬ (("_blocks" : Str) = "_names") := by decide +kernel
def flds (pp bp np : Addr) : List (Str × V) := putF "_names" (.ref np) (putF "_blocks" (.ref bp) (putF "_partners" (.ref pp) []))
theorem flds_p (pp bp np : Addr) : (flds pp bp np).lookup ("_partners" : Str) = some (.ref pp) := by
  unfold flds
  rw [lookup_putF, if_neg n13, lookup_putF, if_neg n12, lookup_putF, if_pos rfl]
theorem flds_b (pp bp np : Addr) : (flds pp bp np).lookup ("_blocks" : Str) = some (.ref bp) := by
  unfold flds
  rw [lookup_putF, if_neg n23, lookup_putF, if_pos rfl]
theorem flds_n (pp bp np : Addr) : (flds pp bp np).lookup ("_names" : Str) = some (.ref np) := by
  unfold flds
  rw [lookup_putF, if_pos rfl]
theorem flds_no (pp bp np : Addr) {m : Str} (h1 : ¬ m = "_partners") (h2 : ¬ m = "_blocks") (h3 : ¬ m = "_names") : (flds pp bp np).lookup m = none := by
  unfold flds
  rw [lookup_putF, if_neg h3, lookup_putF, if_neg h2, lookup_putF, if_neg h1]
  rfl
/-- a sheet at p -/
structure SheetAt (C : Addr) (H : Hp) (p pp bp np : Addr) (l b : List (Str × V)) : Prop where
  ob : ∃ dx, H p = some (.ins C dx (flds pp bp np))
  pt : ∃ l', H pp = some (.dK (sk l')) ∧ SD l l'
  bt : ∃ b', H bp = some (.dK (sk b')) ∧ SD b b' ∧ H np = some (.lst ((b'.map (·.1)).map V.str))
theorem SheetAt.same {C : Addr} {H H' : Hp} {p pp bp np : Addr} {l b : List (Str × V)} (h : SheetAt C H p pp bp np l b) (e : Same H H') : SheetAt C H' p pp bp np l b := by
  obtain ⟨⟨dx, h1⟩, ⟨l', h2, h3⟩, ⟨b', h4, h5, h6⟩⟩ := h
  exact ⟨⟨dx, e _ _ h1⟩, ⟨l', e _ _ h2, h3⟩, ⟨b', e _ _ h4, h5, e _ _ h6⟩⟩
/-- an error class of the package -/
structure ErrC (K : PySem.W.Frag) (mg : Str → Option Value) (x : Str) (C : Addr) : Prop where
  g : mg x = some (.ref C)
  xc : PySem.W.excIn K C [.type "ValueError", .type "Exception", .type "BaseException", .type "object"] "ValueError.__new__" = true
  k : PySem.W.keepIn K (.ref C) = true
  b : PySem.W.subIn K (.ref C) (.type "BaseException") = some true
  t : PySem.W.typeIn K (.ref C) = some (.type "type")
/-- the class of the sheets, as the top has made it -/
structure ClsS (K : PySem.W.Frag) (mg : Str → Option Value) (C : Addr) : Prop where
  cl : Cls K C
  nP : NoAttr K C "_partners"
  nB : NoAttr K C "_blocks"
  nN : NoAttr K C "_names"
  g : mg "Sheet" = some (.ref C)
theorem sk_keys (l : List (Str × V)) : (sk l).map (·.1) = (l.map (·.1)).map Sum.inr := by
  unfold sk
  rw [List.map_map, List.map_map]
  rfl
theorem PartV.same {H H' : Hp} {x : V} {r : Bool} (h : PartV H x r) (e : Same H H') : PartV H' x r := by
  cases h with
  | no h hk => exact .no (h.same e) hk
  | dct h hl hk hv =>
    refine .dct (e _ _ h) hl hk fun p hp => ?_
    obtain ⟨k, h1, h2⟩ := hv p hp
    exact ⟨k, h1.same e, h2⟩
theorem BlkV.same {P : Program} {w : World} {H H' : Hp} {l : List (Str × V)} {x : V} {r : Bool} (h : BlkV P w H l x r) (e : Same H H') : BlkV P w H' l x r := by
  cases h with
  | no h hk => exact .no (h.same e) hk
  | dct h hn hl hb he => exact .dct (e _ _ h) hn hl hb fun i k v b h1 h2 => (he i k v b h1 h2).same e
  | nk h hn hl hb he => exact .nk (e _ _ h) hn hl hb fun i k v b h1 h2 => (he i k v b h1 h2).same e
/-- the entries for some keys -/
def ents (l : List (Str × V)) (ys : List Str) : List (Str × V) := ys.map fun k => (k, (look l k).getD .non)
theorem ents_keys (l : List (Str × V)) (ys : List Str) : (ents l ys).map (·.1) = ys := by
  unfold ents
  rw [List.map_map]
  exact List.map_id ys
theorem ents_sd {l : List (Str × V)} {ys : List Str} (hn : (l.map (·.1)).Nodup) (hp : ys.Perm (l.map (·.1))) (hs : sortedS ys = true) : SD l (ents l ys) := by
  refine ⟨by rw [ents_keys]; exact hp, by rw [ents_keys]; exact hs, fun p h => ?_⟩
  obtain ⟨k, hk, rfl⟩ := List.mem_map.mp h
  obtain ⟨q, hq, e⟩ := List.mem_map.mp (hp.mem_iff.mp hk)
  have e2 := look_some hn hq
  rw [e] at e2
  show look l k = some ((look l k).getD .non)
  rw [e2]
  rfl
theorem look_of {l : List (Str × V)} {ys : List Str} (hn : (l.map (·.1)).Nodup) (hp : ys.Perm (l.map (·.1))) {k : Str} (hk : k ∈ ys) : look l k = some ((look l k).getD .non) := by
  obtain ⟨q, hq, e⟩ := List.mem_map.mp (hp.mem_iff.mp hk)
  have e2 := look_some hn hq
  rw [e] at e2
  rw [e2]
  rfl
theorem ents_put {l : List (Str × V)} {ys : List Str} {i : Nat} {y : Str} (hn : ys.Nodup) (h : ys[i]? = some y) : putK (sk (ents l (ys.take i))) (Sum.inr y) ((look l y).getD .non) = sk (ents l (ys.take (i + 1))) := by
  have e : putK (sk (ents l (ys.take i))) (Sum.inr y) ((look l y).getD .non) = sk (ents l (ys.take i) ++ [(y, (look l y).getD .non)]) :=
    put_map (fun v : V => v) ((look l y).getD .non) (by rw [ents_keys]; exact nd_take hn h)
  rw [e, List.take_add_one, h]
  unfold ents
  rw [List.map_append]
  rfl
section
variable {P : Program} {w : World} {K : PySem.W.Frag} {mg : Str → Option Value} {base : Heap}
def spInit (P : Program) (w : World) (C CB : Addr) : Sp := fun vs H Q E => ∃ (p dx : Addr) (x y : V) (r1 : Bool), vs = [.ref p, x, y] ∧ H p = some (.ins C dx []) ∧ PartV H x r1 ∧
  ((r1 = false ∧ ∀ H', Same H H' → E (.ref CB) none H') ∨
   (r1 = true ∧ ∃ (pa : Addr) (l : List (Str × V)) (r2 : Bool), x = .ref pa ∧ H pa = some (.dK (sk l)) ∧ y ≠ .ref pa ∧ BlkV P w H l y r2 ∧
     ((r2 = false ∧ ∀ H', Same H H' → E (.ref CB) none H') ∨
      (r2 = true ∧ ∃ (ba : Addr) (b : List (Str × V)), y = .ref ba ∧ H ba = some (.dK (sk b)) ∧ l.length < 64 ∧ (l.map (·.1)).Nodup ∧ b.length < 64 ∧ (b.map (·.1)).Nodup ∧
        ∀ (pp bp np : Addr) (H' : Hp), H pp = none → H bp = none → H np = none → SheetAt C H' p pp bp np l b → (∀ c o, c ≠ p → H c = some o → H' c = some o) → Q .non H'))))
theorem ok_init {f C CB fP fB : Addr} {fd fdP fdB : FuncData} (F : Fun K "__init__" "Sheet.__init__" sInit f fd) (dP : D K mg "_are_partners" sArePart ["partners"] fP fdP) (GP : FnOk P w K mg base CX0 3 fP fdP ["partners"] spArePart)
    (dB : D K mg "_are_blocks" sAreBlocks ["partners", "blocks"] fB fdB) (GB : FnOk P w K mg base CX0 3 fB fdB ["partners", "blocks"] (spAreBlocks P w)) (B : Bi mg) (S : ClsS K mg C) (X : ErrC K mg "BadSheet" CB) :
    FnOk P w K mg base (L2.CX P w) 4 f fd ["self", "partners", "blocks"] (spInit P w C CB) := by
  refine F.okX scInit (fun vs H Q E h => ?_) (fun cdv A outer s H vs Q E hr h => ?_)
  · obtain ⟨p, dx, x, y, r1, rfl, _⟩ := h
    rfl
  · obtain ⟨p, dx, x, y, r1, rfl, hp, hP, h⟩ := h
    have hu := hu_of hr
    refine ⟨_, pss_cons (ps_if (pt_not (pt_val (pe_call GP hr (by rfl) dP.m dP.F.kp dP.b .nil pass0 (pa_cons (pv 1) pa_nil))))
        (pss_one (ps_raise rfl (takes_of rfl rfl rfl rfl) (pmk_own PySem.F.excBase_ValueError X.xc X.g X.k (raises_own X.b X.t) rfl))) pss_nil)
      (pss_cons (ps_if (pt_not (pt_val (pe_call GB hr (by rfl) dB.m dB.F.kp dB.b .nil pass0 (pa_cons (pv 1) (pa_cons (pv 2) pa_nil)))))
        (pss_one (ps_raise rfl (takes_of rfl rfl rfl rfl) (pmk_own PySem.F.excBase_ValueError X.xc X.g X.k (raises_own X.b X.t) rfl))) pss_nil)
      (pss_cons (ps_fld (pv 0) (pe_dc (own := [("kind", 3)]) (g := gName 3) (tt := tYes) rfl scInit.nd (pi_list (pe_callB (call_sortedD rfl) (by rfl) B.sorted boot_sorted (pa_cons (pv 1) pa_nil)))
          (blkOk_by (own := [("kind", 3)]) (N := ["self", "partners", "blocks", "kind", "name"]) (sc := defScope sInit) (by decide +kernel))
          (fun _ _ _ _ _ => pg_name (i := 3) scInit.nd rfl (Or.inl rfl)) (fun _ _ _ _ _ => pts_nil) (fun _ _ _ _ _ => pv 3) (fun _ _ _ _ _ => pe_dget hu (pv 1) (pv 3) (fun _ _ => rfl))) rfl)
      (pss_cons (ps_fld (pv 0) (pe_dc (own := [("name", 4)]) (g := gName 4) (tt := tYes) rfl scInit.nd (pi_list (pe_callB (call_sortedD rfl) (by rfl) B.sorted boot_sorted (pa_cons (pv 2) pa_nil)))
          (blkOk_by (own := [("name", 4)]) (N := ["self", "partners", "blocks", "kind", "name"]) (sc := defScope sInit) (by decide +kernel))
          (fun _ _ _ _ _ => pg_name (i := 4) scInit.nd rfl (Or.inl rfl)) (fun _ _ _ _ _ => pts_nil) (fun _ _ _ _ _ => pv 4) (fun _ _ _ _ _ => pe_dget hu (pv 2) (pv 4) (fun _ _ => rfl))) rfl)
      (pss_one (ps_fld (pv 0) (pe_callB (call_sortedD rfl) (by rfl) B.sorted boot_sorted (pa_cons (pv 2) pa_nil)) rfl))))), ?_⟩
    refine ⟨_, rfl, x, r1, rfl, hP, fun H1 s1 => ⟨_, rfl, ?_⟩⟩
    rcases h with ⟨rfl, he⟩ | ⟨rfl, pa, l, r2, rfl, hpa, hne, hB, h⟩
    · show if (!false) = true then _ else _
      rw [if_pos (by decide)]
      exact he H1 s1
    · show if (!true) = true then _ else _
      rw [if_neg (by decide)]
      refine ⟨_, rfl, _, rfl, pa, l, y, r2, rfl, s1 _ _ hpa, hne, hB.same s1, fun H2 s2 => ⟨_, rfl, ?_⟩⟩
      have s12 := s1.trans s2
      rcases h with ⟨rfl, he⟩ | ⟨rfl, ba, b, rfl, hba, ll, ln, bl, bn, q⟩
      · show if (!false) = true then _ else _
        rw [if_pos (by decide)]
        exact he H2 s12
      show if (!true) = true then _ else _
      rw [if_neg (by decide)]
      have hp2 := s12 _ _ hp
      have hpa2 := s12 _ _ hpa
      have hba2 := s12 _ _ hba
      have npa : p ≠ pa := ne_of hp hpa (by intro z; cases z)
      have npb : p ≠ ba := ne_of hp hba (by intro z; cases z)
      -- self._partners = {..}
      refine ⟨_, rfl, pa, sk l, l.map (·.1), rfl, .inl hpa2, sk_keys l, by rw [List.length_map]; exact ll, fun ys sp perm srt nsp => ⟨sp, rfl, ⟨_, SqL.of upd_same⟩, fun D nD => ?_⟩⟩
      have nDs : D ≠ sp := fun e => by rw [e, upd_same] at nD; cases nD
      have nD0 : H2 D = none := by rw [upd_ne nDs] at nD; exact nD
      have hpa3 : ∀ o, (upd (upd H2 sp (.lst (ys.map V.str))) D o) pa = some (.dK (sk l)) := fun o => by rw [upd_ne (ne_of_none hpa2 nD0), upd_ne (ne_of_none hpa2 nsp)]; exact hpa2
      refine dc_list (K := K) (a := sp) (xs := ys.map V.str) (fun i H3 => H3 = upd (upd H2 sp (.lst (ys.map V.str))) D (.dK (sk (ents l (ys.take i))))) rfl (fun i H3 _ e => by rw [e]; exact SqL.of (by rw [upd_ne nDs.symm, upd_same])) ?_ ?_
      · rintro i x Hx hx rfl
        rw [List.getElem?_map] at hx
        cases hj : ys[i]? with
        | none => rw [hj] at hx; cases hx
        | some y =>
          rw [hj] at hx
          have ex : x = V.str y := (Option.some.inj hx).symm
          subst ex
          have hi : i < ys.length := (List.getElem?_eq_some_iff.mp hj).1
          refine ⟨rfl, _, rfl, _, rfl, _, rfl, pa, _, rfl, .inl ⟨_, Sum.inr y, .inl (hpa3 _), rfl, by rw [sk_val]; exact (look_of ln perm (List.mem_of_getElem? hj)).symm⟩, ?_⟩
          refine ⟨_, Sum.inr y, rfl, upd_same, ?_, ?_⟩
          · unfold sk ents
            rw [List.length_map, List.length_map, List.length_take]
            have := perm.length_eq
            rw [List.length_map] at this
            exact small1000 (by omega)
          · rw [upd_upd, ents_put (perm.nodup_iff.mpr ln) hj]
      rintro H3 rfl
      rw [List.length_map, List.take_length]
      have s3 : Same H2 (upd (upd H2 sp (.lst (ys.map V.str))) D (.dK (sk (ents l ys)))) := (same_upd nsp).trans (same_upd nD)
      have hD3 : (upd (upd H2 sp (.lst (ys.map V.str))) D (.dK (sk (ents l ys)))) D = some (.dK (sk (ents l ys))) := upd_same
      generalize (upd (upd H2 sp (.lst (ys.map V.str))) D (.dK (sk (ents l ys)))) = H3 at s3 hD3
      refine ⟨_, rfl, p, C, dx, [], rfl, s3 _ _ hp2, S.cl, S.nP, (by show 0 < 1000; decide), ?_⟩
      have npD : p ≠ D := ne_of (s3 _ _ hp2) hD3 (by intro z; cases z)
      -- self._blocks = {..}
      have k4 : ∀ c o, c ≠ p → H c = some o → (upd H3 p (.ins C dx (putF "_partners" (.ref D) []))) c = some o := fun c o n e => by rw [upd_ne n]; exact s3 _ _ (s12 _ _ e)
      have hD4 : (upd H3 p (.ins C dx (putF "_partners" (.ref D) []))) D = some (.dK (sk (ents l ys))) := by rw [upd_ne npD.symm]; exact hD3
      have hp4 : (upd H3 p (.ins C dx (putF "_partners" (.ref D) []))) p = some (.ins C dx (putF "_partners" (.ref D) [])) := upd_same
      show tSeq _ _ _ _ (upd H3 p (.ins C dx (putF "_partners" (.ref D) [])))
      generalize (upd H3 p (.ins C dx (putF "_partners" (.ref D) []))) = H4 at k4 hD4 hp4
      have hba4 := k4 _ _ npb.symm hba
      refine ⟨_, rfl, ba, sk b, b.map (·.1), rfl, .inl hba4, sk_keys b, by rw [List.length_map]; exact bl, fun zs sq perm2 srt2 nsq => ⟨sq, rfl, ⟨_, SqL.of upd_same⟩, fun G nG => ?_⟩⟩
      have nGs : G ≠ sq := fun e => by rw [e, upd_same] at nG; cases nG
      have nG0 : H4 G = none := by rw [upd_ne nGs] at nG; exact nG
      have hba5 : ∀ o, (upd (upd H4 sq (.lst (zs.map V.str))) G o) ba = some (.dK (sk b)) := fun o => by rw [upd_ne (ne_of_none hba4 nG0), upd_ne (ne_of_none hba4 nsq)]; exact hba4
      refine dc_list (K := K) (a := sq) (xs := zs.map V.str) (fun i H5 => H5 = upd (upd H4 sq (.lst (zs.map V.str))) G (.dK (sk (ents b (zs.take i))))) rfl (fun i H5 _ e => by rw [e]; exact SqL.of (by rw [upd_ne nGs.symm, upd_same])) ?_ ?_
      · rintro i x Hx hx rfl
        rw [List.getElem?_map] at hx
        cases hj : zs[i]? with
        | none => rw [hj] at hx; cases hx
        | some y =>
          rw [hj] at hx
          have ex : x = V.str y := (Option.some.inj hx).symm
          subst ex
          have hi : i < zs.length := (List.getElem?_eq_some_iff.mp hj).1
          refine ⟨rfl, _, rfl, _, rfl, _, rfl, ba, _, rfl, .inl ⟨_, Sum.inr y, .inl (hba5 _), rfl, by rw [sk_val]; exact (look_of bn perm2 (List.mem_of_getElem? hj)).symm⟩, ?_⟩
          refine ⟨_, Sum.inr y, rfl, upd_same, ?_, ?_⟩
          · unfold sk ents
            rw [List.length_map, List.length_map, List.length_take]
            have := perm2.length_eq
            rw [List.length_map] at this
            exact small1000 (by omega)
          · rw [upd_upd, ents_put (perm2.nodup_iff.mpr bn) hj]
      rintro H5 rfl
      rw [List.length_map, List.take_length]
      have s5 : Same H4 (upd (upd H4 sq (.lst (zs.map V.str))) G (.dK (sk (ents b zs)))) := (same_upd nsq).trans (same_upd nG)
      have hG5 : (upd (upd H4 sq (.lst (zs.map V.str))) G (.dK (sk (ents b zs)))) G = some (.dK (sk (ents b zs))) := upd_same
      generalize (upd (upd H4 sq (.lst (zs.map V.str))) G (.dK (sk (ents b zs)))) = H5 at s5 hG5
      have hp5 := s5 _ _ hp4
      refine ⟨_, rfl, p, C, dx, _, rfl, hp5, S.cl, S.nB, (by show 1 < 1000; decide), ?_⟩
      have npG : p ≠ G := ne_of hp5 hG5 (by intro z; cases z)
      have k6 : ∀ c o, c ≠ p → H4 c = some o → (upd H5 p (.ins C dx (putF "_blocks" (.ref G) (putF "_partners" (.ref D) [])))) c = some o := fun c o n e => by rw [upd_ne n]; exact s5 _ _ e
      have hG6 : (upd H5 p (.ins C dx (putF "_blocks" (.ref G) (putF "_partners" (.ref D) [])))) G = some (.dK (sk (ents b zs))) := by rw [upd_ne npG.symm]; exact hG5
      have hp6 : (upd H5 p (.ins C dx (putF "_blocks" (.ref G) (putF "_partners" (.ref D) [])))) p = some (.ins C dx (putF "_blocks" (.ref G) (putF "_partners" (.ref D) []))) := upd_same
      generalize (upd H5 p (.ins C dx (putF "_blocks" (.ref G) (putF "_partners" (.ref D) [])))) = H6 at k6 hG6 hp6
      have hba6 := k6 _ _ npb.symm hba4
      have hD6 := k6 _ _ npD.symm hD4
      -- self._names = sorted(blocks)
      refine ⟨_, rfl, ba, sk b, b.map (·.1), rfl, .inl hba6, sk_keys b, by rw [List.length_map]; exact bl, fun ws np perm3 srt3 nnp => ?_⟩
      refine ⟨_, rfl, p, C, dx, _, rfl, (same_upd nnp) _ _ hp6, S.cl, S.nN, (by show 2 < 1000; decide), ?_⟩
      have npn : p ≠ np := ne_of_none hp6 nnp
      have nDn : D ≠ np := ne_of_none hD6 nnp
      have nGn : G ≠ np := ne_of_none hG6 nnp
      have ew : ws = zs := sorted_one srt3 srt2 (perm3.trans perm2.symm)
      subst ew
      refine q D G np _ ?_ ?_ ?_ ⟨⟨dx, upd_same⟩, ⟨_, ?_, ents_sd ln perm srt⟩, ⟨_, ?_, ents_sd bn perm3 srt3, ?_⟩⟩ fun c o n e => ?_
      · exact s12.free nD0
      · cases q2 : H G with
        | none => rfl
        | some o =>
          have ngp : G ≠ p := npG.symm
          rw [k4 _ _ ngp q2] at nG0
          cases nG0
      · cases q2 : H np with
        | none => rfl
        | some o =>
          rw [k6 _ _ npn.symm (k4 _ _ npn.symm q2)] at nnp
          cases nnp
      · rw [upd_ne npD.symm, upd_ne nDn]; exact hD6
      · rw [upd_ne npG.symm, upd_ne nGn]; exact hG6
      · rw [upd_ne npn.symm, upd_same, ents_keys]
      · rw [upd_ne n, upd_ne (ne_of_none (k6 _ _ n (k4 _ _ n e)) nnp)]
        exact k6 _ _ n (k4 _ _ n e)
end
end K1

set_option Elab.async false
set_option linter.all false
set_option maxRecDepth 100000
set_option maxHeartbeats 1000000
namespace K1
open PySem PySem.Spec PyProof.Rows L2
abbrev sKinds : Stmt := inClass cSheet 1
abbrev sNames : Stmt := inClass cSheet 2
abbrev sJoints : Stmt := inClass cSheet 3
abbrev sPartner : Stmt := inClass cSheet 4
abbrev sJoint : Stmt := inClass cSheet 5
abbrev sEnds : Stmt := inClass cSheet 6
abbrev sLen : Stmt := inClass cSheet 7
abbrev sCont : Stmt := inClass cSheet 8
abbrev sIter : Stmt := inClass cSheet 9
abbrev sEq : Stmt := inClass cSheet 10
theorem scKinds : FnScope ["self"] ["self"] (defScope sKinds) := ⟨rfl, rfl, rfl, by decide +kernel, rfl, by decide +kernel, by decide +kernel⟩
theorem scNames : FnScope ["self"] ["self"] (defScope sNames) := ⟨rfl, rfl, rfl, by decide +kernel, rfl, by decide +kernel, by decide +kernel⟩
theorem scJoints : FnScope ["self", "kind", "other"] ["self"] (defScope sJoints) := ⟨rfl, rfl, rfl, by decide +kernel, rfl, by decide +kernel, by decide +kernel⟩
theorem scPartner : FnScope ["self", "kind"] ["self", "kind"] (defScope sPartner) := ⟨rfl, rfl, rfl, by decide +kernel, rfl, by decide +kernel, by decide +kernel⟩
theorem scJoint : FnScope ["self", "kind"] ["self", "kind"] (defScope sJoint) := ⟨rfl, rfl, rfl, by decide +kernel, rfl, by decide +kernel, by decide +kernel⟩
theorem scEnds : FnScope ["self", "name"] ["self", "name"] (defScope sEnds) := ⟨rfl, rfl, rfl, by decide +kernel, rfl, by decide +kernel, by decide +kernel⟩
theorem scLen : FnScope ["self"] ["self"] (defScope sLen) := ⟨rfl, rfl, rfl, by decide +kernel, rfl, by decide +kernel, by decide +kernel⟩
theorem scCont : FnScope ["self", "name"] ["self", "name"] (defScope sCont) := ⟨rfl, rfl, rfl, by decide +kernel, rfl, by decide +kernel, by decide +kernel⟩
theorem scIter : FnScope ["self"] ["self"] (defScope sIter) := ⟨rfl, rfl, rfl, by decide +kernel, rfl, by decide +kernel, by decide +kernel⟩
theorem scEq : FnScope ["self", "other"] ["self", "other"] (defScope sEq) := ⟨rfl, rfl, rfl, by decide +kernel, rfl, by decide +kernel, by decide +kernel⟩
theorem SD.look {l l' : List (Str × V)} (h : SD l l') (hn : (l.map (·.1)).Nodup) (a : Str) : look l' a = K1.look l a := by
  have hn' : (l'.map (·.1)).Nodup := h.perm.nodup_iff.mpr hn
  by_cases hm : a ∈ l'.map (·.1)
  · obtain ⟨p, hp, e⟩ := List.mem_map.mp hm
    have e1 := look_some hn' hp
    have e2 := h.val p hp
    rw [e] at e1 e2
    rw [e1, e2]
  · rw [look_none hm, look_none fun q => hm (h.perm.mem_iff.mpr q)]
theorem SD.len {l l' : List (Str × V)} (h : SD l l') : l'.length = l.length := by
  have := h.perm.length_eq
  rw [List.length_map, List.length_map] at this
  exact this
section
variable {P : Program} {w : World} {K : PySem.W.Frag} {mg : Str → Option Value} {base : Heap}
def spKinds (C : Addr) : Sp := fun vs H Q _ => ∃ (p pp bp np : Addr) (l b : List (Str × V)), vs = [.ref p] ∧ SheetAt C H p pp bp np l b ∧ ∀ (L : Addr) (ks : List Str), ks.Perm (l.map (·.1)) → sortedS ks = true → H L = none → Q (.ref L) (upd H L (.lst (ks.map V.str)))
theorem ok_kinds {f C : Addr} {fd : FuncData} (F : Fun K "kinds" "Sheet.kinds" sKinds f fd) (B : Bi mg) (S : ClsS K mg C) : FnOk P w K mg base CX0 1 f fd ["self"] (spKinds C) := by
  refine F.ok scKinds (fun vs H Q E h => ?_) (fun cdv A outer s H vs Q E hr h => ?_)
  · obtain ⟨p, pp, bp, np, l, b, rfl, _⟩ := h
    rfl
  · obtain ⟨p, pp, bp, np, l, b, rfl, ⟨⟨dx, h1⟩, ⟨l', h2, h3⟩, _⟩, q⟩ := h
    refine ⟨_, pss_one (ps_ret (pe_callTy (call_listD rfl) (by rfl) B.list boot_list (pa_cons (pe_fld (pv 0) rfl) pa_nil))), ?_⟩
    refine ⟨_, rfl, p, C, dx, _, _, rfl, h1, S.cl, S.nP, flds_p _ _ _, pp, _, rfl, .inl h2, fun L nL => ?_⟩
    have e : (sk l').map (fun kv => kV kv.1) = (l'.map (·.1)).map V.str := by
      unfold sk; rw [List.map_map, List.map_map]; rfl
    rw [e]
    exact q L _ h3.perm h3.sorted nL
def spNames (C : Addr) : Sp := fun vs H Q _ => ∃ (p pp bp np : Addr) (l b : List (Str × V)), vs = [.ref p] ∧ SheetAt C H p pp bp np l b ∧ ∀ (L : Addr) (ks : List Str), ks.Perm (b.map (·.1)) → sortedS ks = true → H L = none → Q (.ref L) (upd H L (.lst (ks.map V.str)))
theorem ok_names {f C : Addr} {fd : FuncData} (F : Fun K "names" "Sheet.names" sNames f fd) (B : Bi mg) (S : ClsS K mg C) : FnOk P w K mg base CX0 1 f fd ["self"] (spNames C) := by
  refine F.ok scNames (fun vs H Q E h => ?_) (fun cdv A outer s H vs Q E hr h => ?_)
  · obtain ⟨p, pp, bp, np, l, b, rfl, _⟩ := h
    rfl
  · obtain ⟨p, pp, bp, np, l, b, rfl, ⟨⟨dx, h1⟩, _, ⟨b', h4, h5, h6⟩⟩, q⟩ := h
    refine ⟨_, pss_one (ps_ret (pe_callTy call_list_of (by rfl) B.list boot_list (pa_cons (pe_fld (pv 0) rfl) pa_nil))), ?_⟩
    refine ⟨_, rfl, p, C, dx, _, _, rfl, h1, S.cl, S.nN, flds_n _ _ _, np, _, rfl, .inl (SqL.of h6), fun L nL => ?_⟩
    exact q L _ h5.perm h5.sorted nL
def spLen (C : Addr) : Sp := fun vs H Q _ => ∃ (p pp bp np : Addr) (l b : List (Str × V)), vs = [.ref p] ∧ SheetAt C H p pp bp np l b ∧ Q (.int b.length) H
theorem ok_len {f C : Addr} {fd : FuncData} (F : Fun K "__len__" "Sheet.__len__" sLen f fd) (B : Bi mg) (S : ClsS K mg C) : FnOk P w K mg base CX0 1 f fd ["self"] (spLen C) := by
  refine F.ok scLen (fun vs H Q E h => ?_) (fun cdv A outer s H vs Q E hr h => ?_)
  · obtain ⟨p, pp, bp, np, l, b, rfl, _⟩ := h
    rfl
  · obtain ⟨p, pp, bp, np, l, b, rfl, ⟨⟨dx, h1⟩, _, ⟨b', h4, h5, h6⟩⟩, q⟩ := h
    refine ⟨_, pss_one (ps_ret (pe_callB call_len_seq (by rfl) B.len PySem.boot_len (pa_cons (pe_fld (pv 0) rfl) pa_nil))), ?_⟩
    refine ⟨_, rfl, p, C, dx, _, _, rfl, h1, S.cl, S.nN, flds_n _ _ _, np, _, rfl, .inl (SqL.of h6), ?_⟩
    have e : ((b'.map (·.1)).map V.str).length = b.length := by rw [List.length_map, List.length_map, h5.len]
    rw [e]
    exact q
def spIter (C : Addr) : Sp := fun vs H Q _ => ∃ (p pp bp np : Addr) (l b : List (Str × V)), vs = [.ref p] ∧ SheetAt C H p pp bp np l b ∧ ∀ (it : Addr), H it = none → Q (.ref it) (upd H it (ItO np it 0))
theorem ok_iter {f C : Addr} {fd : FuncData} (F : Fun K "__iter__" "Sheet.__iter__" sIter f fd) (B : Bi mg) (S : ClsS K mg C) : FnOk P w K mg base CX0 1 f fd ["self"] (spIter C) := by
  refine F.ok scIter (fun vs H Q E h => ?_) (fun cdv A outer s H vs Q E hr h => ?_)
  · obtain ⟨p, pp, bp, np, l, b, rfl, _⟩ := h
    rfl
  · obtain ⟨p, pp, bp, np, l, b, rfl, ⟨⟨dx, h1⟩, _, ⟨b', h4, h5, h6⟩⟩, q⟩ := h
    refine ⟨_, pss_one (ps_ret (pe_callB call_iterL (by rfl) B.iter boot_iter (pa_cons (pe_fld (pv 0) rfl) pa_nil))), ?_⟩
    refine ⟨_, rfl, p, C, dx, _, _, rfl, h1, S.cl, S.nN, flds_n _ _ _, np, _, rfl, SqL.of h6, fun it nit => q it nit⟩
/-- a key looked up in the sheet's dicts: found, or not there -/
def spGet (C CK : Addr) (side : Bool) : Sp := fun vs H Q E => ∃ (p pp bp np : Addr) (l b : List (Str × V)) (x : V) (k : Kd), vs = [.ref p, x] ∧ SheetAt C H p pp bp np l b ∧ Is H x k ∧ ((if side then l else b).map (·.1)).Nodup ∧
  ((∃ z v, k = .str z ∧ K1.look (if side then l else b) z = some v ∧ Q v H) ∨ ((∀ z, k = .str z → K1.look (if side then l else b) z = none) ∧ E (.ref CK) none H))
theorem ok_partner {f C CK : Addr} {fd : FuncData} (F : Fun K "partner" "Sheet.partner" sPartner f fd) (B : Bi mg) (S : ClsS K mg C) (X : ErrC K mg "BadKind" CK) : FnOk P w K mg base (L2.CX P w) 1 f fd ["self", "kind"] (spGet C CK true) := by
  refine F.okX scPartner (fun vs H Q E h => ?_) (fun cdv A outer s H vs Q E hr h => ?_)
  · obtain ⟨p, pp, bp, np, l, b, x, k, rfl, _⟩ := h
    rfl
  · obtain ⟨p, pp, bp, np, l, b, x, k, rfl, ⟨⟨dx, h1⟩, ⟨l', h2, h3⟩, _⟩, hx, hn, q⟩ := h
    have hu := hu_of hr
    refine ⟨_, pss_cons (ps_if (PW.pt (pw_or (pt_not (pt_val (pe_callB call_isi (by rfl) B.isi boot_isinstance (pa_cons (pv 1) (pa_cons (pe_bltn (by rfl) B.str boot_str (v := .ty "str") rfl) pa_nil)))))
        (pw_or1 (pt_cmp (pc_dnotin hu (pv 1) (pe_fld (pv 0) rfl)))))) (pss_one (ps_raise rfl (takes_of rfl rfl rfl rfl) (pmk_own PySem.F.excBase_ValueError X.xc X.g X.k (raises_own X.b X.t) rfl))) pss_nil)
      (pss_one (ps_ret (pe_dget hu (pe_fld (pv 0) rfl) (pv 1) (fun _ _ => rfl)))), ?_⟩
    refine ⟨_, rfl, _, _, _, _, _, rfl, .ty "str", hx.ty, kit_str k, _, rfl, ?_⟩
    cases hs : isStrK k with
    | false =>
      rcases q with ⟨z, v, rfl, _⟩ | ⟨_, q⟩
      · cases hs
      · exact q
    | true =>
      obtain ⟨y, rfl⟩ : ∃ y, k = .str y := by
        cases k with
        | str z => exact ⟨z, rfl⟩
        | _ => cases hs
      have ey := hx.str_inv
      subst ey
      show if (!true) = true then _ else _
      rw [if_neg (by decide)]
      refine ⟨_, rfl, _, rfl, p, C, dx, _, _, rfl, h1, S.cl, S.nP, flds_p _ _ _, pp, _, rfl, DGet.k (k := Sum.inr y) h2, _, rfl, ?_⟩
      rw [sk_val, h3.look hn]
      rcases q with ⟨z, v, ez, hv, q⟩ | ⟨hno, q⟩
      · cases ez
        have hv : K1.look l y = some v := hv
        rw [hv]
        show if (!true) = true then _ else _
        rw [if_neg (by decide)]
        exact ⟨_, rfl, p, C, dx, _, _, rfl, h1, S.cl, S.nP, flds_p _ _ _, _, rfl, pp, v, rfl, .inl ⟨_, Sum.inr y, .inl h2, rfl, by rw [sk_val, h3.look hn, hv]⟩, q⟩
      · have hv : K1.look l y = none := hno y rfl
        rw [hv]
        exact q
theorem ok_ends {f C CK : Addr} {fd : FuncData} (F : Fun K "ends" "Sheet.ends" sEnds f fd) (B : Bi mg) (S : ClsS K mg C) (X : ErrC K mg "BadBlock" CK) : FnOk P w K mg base (L2.CX P w) 1 f fd ["self", "name"] (spGet C CK false) := by
  refine F.okX scEnds (fun vs H Q E h => ?_) (fun cdv A outer s H vs Q E hr h => ?_)
  · obtain ⟨p, pp, bp, np, l, b, x, k, rfl, _⟩ := h
    rfl
  · obtain ⟨p, pp, bp, np, l, b, x, k, rfl, ⟨⟨dx, h1⟩, _, ⟨l', h2, h3, _⟩⟩, hx, hn, q⟩ := h
    have hu := hu_of hr
    refine ⟨_, pss_cons (ps_if (PW.pt (pw_or (pt_not (pt_val (pe_callB call_isi (by rfl) B.isi boot_isinstance (pa_cons (pv 1) (pa_cons (pe_bltn (by rfl) B.str boot_str (v := .ty "str") rfl) pa_nil)))))
        (pw_or1 (pt_cmp (pc_dnotin hu (pv 1) (pe_fld (pv 0) rfl)))))) (pss_one (ps_raise rfl (takes_of rfl rfl rfl rfl) (pmk_own PySem.F.excBase_ValueError X.xc X.g X.k (raises_own X.b X.t) rfl))) pss_nil)
      (pss_one (ps_ret (pe_dget hu (pe_fld (pv 0) rfl) (pv 1) (fun _ _ => rfl)))), ?_⟩
    refine ⟨_, rfl, _, _, _, _, _, rfl, .ty "str", hx.ty, kit_str k, _, rfl, ?_⟩
    cases hs : isStrK k with
    | false =>
      rcases q with ⟨z, v, rfl, _⟩ | ⟨_, q⟩
      · cases hs
      · exact q
    | true =>
      obtain ⟨y, rfl⟩ : ∃ y, k = .str y := by
        cases k with
        | str z => exact ⟨z, rfl⟩
        | _ => cases hs
      have ey := hx.str_inv
      subst ey
      show if (!true) = true then _ else _
      rw [if_neg (by decide)]
      refine ⟨_, rfl, _, rfl, p, C, dx, _, _, rfl, h1, S.cl, S.nB, flds_b _ _ _, bp, _, rfl, DGet.k (k := Sum.inr y) h2, _, rfl, ?_⟩
      rw [sk_val, h3.look hn]
      rcases q with ⟨z, v, ez, hv, q⟩ | ⟨hno, q⟩
      · cases ez
        have hv : K1.look b y = some v := hv
        rw [hv]
        show if (!true) = true then _ else _
        rw [if_neg (by decide)]
        exact ⟨_, rfl, p, C, dx, _, _, rfl, h1, S.cl, S.nB, flds_b _ _ _, _, rfl, bp, v, rfl, .inl ⟨_, Sum.inr y, .inl h2, rfl, by rw [sk_val, h3.look hn, hv]⟩, q⟩
      · have hv : K1.look b y = none := hno y rfl
        rw [hv]
        exact q
def spCont (C : Addr) : Sp := fun vs H Q _ => ∃ (p pp bp np : Addr) (l b : List (Str × V)) (z : Str), vs = [.ref p, .str z] ∧ SheetAt C H p pp bp np l b ∧ (b.map (·.1)).Nodup ∧ Q (.bl (K1.look b z).isSome) H
theorem ok_cont {f C : Addr} {fd : FuncData} (F : Fun K "__contains__" "Sheet.__contains__" sCont f fd) (B : Bi mg) (S : ClsS K mg C) : FnOk P w K mg base CX0 1 f fd ["self", "name"] (spCont C) := by
  refine F.ok scCont (fun vs H Q E h => ?_) (fun cdv A outer s H vs Q E hr h => ?_)
  · obtain ⟨p, pp, bp, np, l, b, z, rfl, _⟩ := h
    rfl
  · obtain ⟨p, pp, bp, np, l, b, z, rfl, ⟨⟨dx, h1⟩, _, ⟨l', h2, h3, _⟩⟩, hn, q⟩ := h
    have hu := hu_of hr
    refine ⟨_, pss_one (ps_ret (pe_and (pe_callB call_isi (by rfl) B.isi boot_isinstance (pa_cons (pv 1) (pa_cons (pe_bltn (by rfl) B.str boot_str (v := .ty "str") rfl) pa_nil)))
        (pe_one (pe_cmp (pc_din hu (pv 1) (pe_fld (pv 0) rfl)))))), ?_⟩
    refine ⟨_, rfl, _, _, _, _, _, rfl, .ty "str", (Is.str z).ty, kit_str _, true, rfl, ?_⟩
    rw [if_pos rfl]
    refine ⟨_, rfl, _, rfl, p, C, dx, _, _, rfl, h1, S.cl, S.nB, flds_b _ _ _, bp, _, rfl, DGet.k (k := Sum.inr z) h2, ?_⟩
    rw [sk_val, h3.look hn]
    exact q
end
end K1

set_option Elab.async false
set_option linter.all false
set_option maxRecDepth 100000
set_option maxHeartbeats 1000000
namespace K1
open PySem PySem.Spec PyProof.Rows L2
/-- texts as values -/
def pl (ps : List (Str × Str)) : List (Str × V) := ps.map fun p => (p.1, V.str p.2)
theorem sk_pl (ps : List (Str × Str)) : sk (pl ps) = pk ps := by
  unfold sk pl pk
  rw [List.map_map]
  rfl
theorem pl_keys (ps : List (Str × Str)) : (pl ps).map (·.1) = ps.map (·.1) := by
  unfold pl
  rw [List.map_map]
  rfl
theorem look_pl : ∀ (ps : List (Str × Str)) (a : Str), K1.look (pl ps) a = (K1.look ps a).map V.str
  | [], _ => rfl
  | p :: r, a => by
    have ih := look_pl r a
    unfold K1.look pl at ih ⊢
    rw [List.map_cons, List.find?_cons, List.find?_cons]
    by_cases e : p.1 = a
    · rw [decide_eq_true e]; rfl
    · rw [decide_eq_false e]; exact ih
/-- is a kind a joint -/
def jt (p : Str × Str) : Bool := !decide (p.2.cps.toList < p.1.cps.toList)
theorem lt_iff : ∀ a b : List Nat, decide (a < b) = ltCps a b
  | [], [] => by simp [ltCps]
  | [], _ :: _ => by simp [ltCps]
  | _ :: _, [] => by simp [ltCps]
  | a :: r, b :: t => by
    have ih := lt_iff r t
    unfold ltCps
    rw [← ih]
    have e : ((a :: r) < (b :: t)) ↔ (a < b ∨ a = b ∧ r < t) := List.cons_lt_cons_iff
    by_cases h1 : a < b
    · rw [decide_eq_true (e.mpr (.inl h1)), decide_eq_true h1, Bool.true_or]
    · by_cases h2 : a = b
      · subst h2
        by_cases h3 : r < t
        · rw [decide_eq_true (e.mpr (.inr ⟨rfl, h3⟩)), decide_eq_true h3]; simp
        · rw [decide_eq_false (fun q => (e.mp q).elim h1 fun z => h3 z.2), decide_eq_false h1, decide_eq_false h3]; simp
      · rw [decide_eq_false (fun q => (e.mp q).elim h1 fun z => h2 z.1), decide_eq_false h1]
        simp [h2]
theorem sorted_pw : ∀ {l : List Str}, sortedS l = true → l.Pairwise (fun a b => ltCps b.cps.toList a.cps.toList = false)
  | [], _ => List.Pairwise.nil
  | x :: r, h => List.Pairwise.cons (fun y hy => sorted_head h y (List.mem_cons_of_mem _ hy)) (sorted_pw (sorted_tail h))
theorem sorted_filter {l : List Str} (h : sortedS l = true) (f : Str → Bool) : sortedS (l.filter f) = true := sortedS_of_pairwise _ ((sorted_pw h).filter f)
/-- from a permuted dict of texts, its pairs -/
theorem sd_pl {ps : List (Str × Str)} {l' : List (Str × V)} (h : SD (pl ps) l') (hn : (ps.map (·.1)).Nodup) : ∃ qs, l' = pl qs ∧ qs.Perm ps := by
  have key : ∀ l'' : List (Str × V), (∀ p ∈ l'', look (pl ps) p.1 = some p.2) → ∃ qs, l'' = pl qs ∧ ∀ q ∈ qs, q ∈ ps := by
    intro l''
    induction l'' with
    | nil => exact fun _ => ⟨[], rfl, by simp⟩
    | cons p r ih =>
      intro hv
      obtain ⟨qs, e, hq⟩ := ih fun q hq => hv q (List.mem_cons_of_mem _ hq)
      have e1 := hv p List.mem_cons_self
      rw [look_pl] at e1
      obtain ⟨y, hy, ey⟩ := Option.map_eq_some_iff.mp e1
      refine ⟨(p.1, y) :: qs, ?_, fun q hq' => ?_⟩
      · obtain ⟨p1, p2⟩ := p
        have ey : V.str y = p2 := ey
        rw [e, ← ey]
        rfl
      · rcases List.mem_cons.mp hq' with z | z
        · rw [z]; exact look_mem hy
        · exact hq q z
  obtain ⟨qs, e, hq⟩ := key l' h.val
  refine ⟨qs, e, ?_⟩
  have hp := h.perm
  rw [e, pl_keys, pl_keys] at hp
  have hnq : (qs.map (·.1)).Nodup := hp.nodup_iff.mpr hn
  have nd1 : qs.Nodup := by
    clear hq hp e
    induction qs with
    | nil => exact List.nodup_nil
    | cons q r ih =>
      rw [List.map_cons, List.nodup_cons] at hnq
      exact List.nodup_cons.mpr ⟨fun m => hnq.1 (List.mem_map_of_mem m), ih hnq.2⟩
  have nd2 : ps.Nodup := by
    clear hq hp e h key
    induction ps with
    | nil => exact List.nodup_nil
    | cons q r ih =>
      rw [List.map_cons, List.nodup_cons] at hn
      exact List.nodup_cons.mpr ⟨fun m => hn.1 (List.mem_map_of_mem m), ih hn.2⟩
  rw [List.perm_ext_iff_of_nodup nd1 nd2]
  intro a
  refine ⟨hq a, fun ha => ?_⟩
  obtain ⟨b, hb, eb⟩ := List.mem_map.mp (hp.mem_iff.mpr (List.mem_map_of_mem ha))
  have e1 := look_some hn ha
  have e2 := look_some hn (hq b hb)
  rw [eb] at e2
  have e3 : a.2 = b.2 := Option.some.inj (e1.symm.trans e2)
  have : a = b := Prod.ext eb.symm e3
  rw [this]
  exact hb
/-- a comprehension over a dict's pairs -/
theorem lc_items {d : Addr} {o : Obj} {kvs : List (Key × V)} {g : TG} {tt : TT} {te : TE} {vs : List Nat} {σ : L2.St} {H1 : Hp} {D : Addr} {Qd : Hp → Prop} (Pv : Nat → Hp → Prop) (h0 : Pv 0 (upd H1 D (.lst []))) (hl : ∀ i H, Pv i H → H d = some (.frz o (.dK kvs)))
    (hs : ∀ i k v T H, kvs[i]? = some (k, v) → H T = none → Pv i H → g (.ref T) (wipe σ vs) (upd H T (.tup [kV k, v])) fun σ2 H2 => wipe σ2 vs = wipe σ vs ∧ tt σ2 H2 fun b H3 =>
      if b = true then te σ2 H3 fun y H4 => ∃ acc, H4 D = some (.lst acc) ∧ acc.length < sizeLine ∧ Pv (i + 1) (upd H4 D (.lst (acc ++ [y]))) else Pv (i + 1) H3) (hd : ∀ H, Pv kvs.length H → Qd H) :
    ∃ W : Nat → Nat → Hp → Prop, (∃ m, W 0 m (upd H1 D (.lst []))) ∧ ∀ i m H, W i m H →
      ((Iti d o kvs).stop i H ∧ Qd H) ∨ ((Iti d o kvs).go i H ∧ ∃ Nx : Hp → Prop, (∀ H', Nx H' → ∃ m', m' < m ∧ W (i + 1) m' H') ∧ ∀ x H', (Iti d o kvs).yld i H x H' → g x (wipe σ vs) H' fun σ2 H2 => wipe σ2 vs = wipe σ vs ∧ tt σ2 H2 fun b H3 =>
        if b = true then te σ2 H3 fun y H4 => ∃ acc, H4 D = some (.lst acc) ∧ acc.length < sizeLine ∧ Nx (upd H4 D (.lst (acc ++ [y]))) else Nx H3) := by
  refine ⟨fun i m H => m = kvs.length - i ∧ i ≤ kvs.length ∧ Pv i H, ⟨kvs.length, by simp, Nat.zero_le _, h0⟩, ?_⟩
  rintro i m H ⟨rfl, hi, p⟩
  have q := hl i H p
  by_cases hlt : i < kvs.length
  · refine .inr ⟨⟨q, hlt⟩, Pv (i + 1), fun H' p' => ⟨kvs.length - (i + 1), by omega, rfl, hlt, p'⟩, fun x H' y => ?_⟩
    obtain ⟨T, k, v, e, ex, eT, eH⟩ := y
    subst ex
    subst eH
    exact hs i k v T _ e eT p
  · have e : i = kvs.length := by omega
    subst e
    exact .inl ⟨⟨q, Nat.le_refl _⟩, hd H p⟩
section
variable {P : Program} {w : World} {K : PySem.W.Frag} {mg : Str → Option Value} {base : Heap}
def spJoints (C : Addr) : Sp := fun vs H Q _ => ∃ (p pp bp np : Addr) (ps : List (Str × Str)) (b : List (Str × V)), vs = [.ref p] ∧ SheetAt C H p pp bp np (pl ps) b ∧ (ps.map (·.1)).Nodup ∧ ps.length ≤ 100 ∧
  ∀ (L : Addr) (js : List Str) (H' : Hp), js.Perm ((ps.filter jt).map (·.1)) → sortedS js = true → H L = none → H' L = some (.lst (js.map V.str)) → Same H H' → Q (.ref L) H'
theorem ok_joints {f C : Addr} {fd : FuncData} (F : Fun K "joints" "Sheet.joints" sJoints f fd) (B : Bi mg) (S : ClsS K mg C) : FnOk P w K mg base CX0 1 f fd ["self"] (spJoints C) := by
  refine F.ok scJoints (fun vs H Q E h => ?_) (fun cdv A outer s H vs Q E hr h => ?_)
  · obtain ⟨p, pp, bp, np, l, b, rfl, _⟩ := h
    rfl
  · obtain ⟨p, pp, bp, np, ps, b, rfl, ⟨⟨dx, h1⟩, ⟨l', h2, h3⟩, _⟩, hn, hlen, q⟩ := h
    obtain ⟨qs, rfl, perm⟩ := sd_pl h3 hn
    have hsrt := h3.sorted
    rw [pl_keys] at hsrt
    refine ⟨_, pss_one (ps_ret (pe_lock (pe_lc (own := [("kind", 1), ("other", 2)]) (g := gTup K 2 (gCons (gName 1) (gCons (gName 2) gNil))) rfl scJoints.nd (pi_items (pe_fld (pv 0) rfl)) (blkOk_by (own := [("kind", 1), ("other", 2)]) (N := ["self", "kind", "other"]) (sc := defScope sJoints) (by decide +kernel))
        (fun _ _ _ _ _ => pg_tup rfl (pgs_cons (pg_name (i := 1) scJoints.nd rfl (.inl rfl)) (pgs_cons (pg_name (i := 2) scJoints.nd rfl (.inl rfl)) pgs_nil))) (fun _ _ _ _ _ => pts_one (pt_cmpR op_le_str (pv 1) (pv 2) (nomark _))) (fun _ _ _ _ _ => pv 1)))), ?_⟩
    have hpp : p ≠ pp := ne_of h1 h2 (by intro z; cases z)
    refine ⟨pp, _, h2, True.intro, fun od => ⟨_, rfl, p, C, dx, _, _, rfl, by rw [upd_ne hpp]; exact h1, S.cl, S.nP, flds_p _ _ _, pp, od, _, rfl, upd_same, fun L nL => ?_⟩⟩
    have nLp : L ≠ pp := fun e => by rw [e, upd_same] at nL; cases nL
    have nL0 : H L = none := by rw [upd_ne nLp] at nL; exact nL
    refine lc_items (fun i H2 => H2 L = some (.lst ((((qs.take i).filter jt).map (·.1)).map V.str)) ∧ ∀ c o, c ≠ L → (upd H pp (.frz od (.dK (sk (pl qs))))) c = some o → H2 c = some o) ⟨upd_same, fun c o n e => by rw [upd_ne n]; exact e⟩ (fun i H2 q => q.2 _ _ nLp.symm upd_same) ?_ ?_
    · rintro i k v T H2 hkv nT ⟨e1, e2⟩
      obtain ⟨a, ha, rfl, rfl⟩ : ∃ a, qs[i]? = some a ∧ k = Sum.inr a.1 ∧ v = .str a.2 := by
        unfold sk pl at hkv
        rw [List.map_map, List.getElem?_map] at hkv
        cases hp : qs[i]? with
        | none => rw [hp] at hkv; cases hkv
        | some a =>
          rw [hp] at hkv
          have := Option.some.inj hkv
          exact ⟨a, rfl, (congrArg Prod.fst this).symm, (congrArg Prod.snd this).symm⟩
      have nTL : T ≠ L := (ne_of_none e1 nT).symm
      refine ⟨T, _, rfl, SqT.of upd_same, rfl, _, _, rfl, _, _, rfl, rfl, rfl, ?_⟩
      refine ⟨_, rfl, _, rfl, _, _, rfl, rfl, _, rfl, ?_⟩
      have e1T : ∀ {o}, (upd H2 T o) L = some (.lst ((((qs.take i).filter jt).map (·.1)).map V.str)) := fun {o} => by rw [upd_ne nTL.symm]; exact e1
      have e2T : ∀ {o}, ∀ c u, c ≠ L → (upd H pp (.frz od (.dK (sk (pl qs))))) c = some u → (upd H2 T o) c = some u := fun {o} c u n e => by
        have := e2 c u n e
        rw [upd_ne (ne_of_none this nT)]
        exact this
      show if jt a = true then _ else _
      cases hj : jt a with
      | true =>
        rw [if_pos rfl]
        refine ⟨_, rfl, _, e1T, ?_, ?_, fun c u n e => by rw [upd_ne n]; exact e2T c u n e⟩
        · rw [List.length_map, List.length_map]
          refine small1000 (Nat.le_trans (List.length_filter_le _ _) (Nat.le_trans (List.length_take_le _ _) ?_))
          have := (List.getElem?_eq_some_iff.mp ha).1
          have := perm.length_eq
          omega
        · rw [upd_same, List.take_add_one, ha, List.filter_append, List.map_append, List.map_append]
          simp [hj]
          rfl
      | false =>
        rw [if_neg Bool.false_ne_true]
        refine ⟨?_, e2T⟩
        rw [List.take_add_one, ha, List.filter_append]
        simp only [Option.toList, List.filter_cons, hj, List.filter_nil, Bool.false_eq_true, if_false, List.append_nil]
        exact e1T
    · rintro H2 ⟨e1, e2⟩
      refine ⟨e2 _ _ nLp.symm upd_same, ?_⟩
      have el : qs.take (sk (pl qs)).length = qs := by unfold sk pl; rw [List.length_map, List.length_map]; exact List.take_length
      rw [el] at e1
      have s2 : Same (upd H pp (.frz od (.dK (sk (pl qs))))) H2 := fun c o e => e2 c o (ne_of_none e nL) e
      refine q L _ _ ?_ ?_ nL0 (by rw [upd_ne nLp]; exact e1) (Same.lock h2 s2)
      · exact (perm.filter jt).map (·.1)
      · exact sortedS_of_pairwise _ (List.pairwise_map.mpr ((List.pairwise_map.mp (sorted_pw hsrt)).filter jt))
def spJoint (C CK : Addr) : Sp := fun vs H Q E => ∃ (p pp bp np : Addr) (l b : List (Str × V)) (x : V) (k : Kd), vs = [.ref p, x] ∧ SheetAt C H p pp bp np l b ∧ Is H x k ∧ (l.map (·.1)).Nodup ∧
  ((∃ z v, k = .str z ∧ K1.look l z = some (.str v) ∧ Q (.str (minS z v)) H) ∨ ((∀ z, k = .str z → K1.look l z = none) ∧ E (.ref CK) none H))
theorem ok_joint {f fP C CK : Addr} {fd fdP : FuncData} (F : Fun K "joint" "Sheet.joint" sJoint f fd) (mP : Meth K C "partner" fP) (GP : FnOk P w K mg base (L2.CX P w) 1 fP fdP ["self", "kind"] (spGet C CK true)) (bP : Binds K fdP ["self", "kind"] []) (B : Bi mg) (S : ClsS K mg C) :
    FnOk P w K mg base (L2.CX P w) 2 f fd ["self", "kind"] (spJoint C CK) := by
  refine F.okX scJoint (fun vs H Q E h => ?_) (fun cdv A outer s H vs Q E hr h => ?_)
  · obtain ⟨p, pp, bp, np, l, b, x, k, rfl, _⟩ := h
    rfl
  · obtain ⟨p, pp, bp, np, l, b, x, k, rfl, hS, hx, hn, q⟩ := h
    refine ⟨_, pss_one (ps_ret (pe_callB (cr_min2s rfl) (by rfl) B.min boot_min (pa_cons (pv 1) (pa_cons (pe_meth (pv 0) S.cl mP GP hr bP .nil (passes_call (takes_of rfl rfl rfl rfl) (fun _ _ _ _ h => h)) (pa_cons (pv 1) pa_nil)) pa_nil)))), ?_⟩
    obtain ⟨dx, h1⟩ := hS.ob
    refine ⟨_, rfl, _, rfl, p, dx, _, rfl, h1, flds_no _ _ _ (by decide +kernel) (by decide +kernel) (by decide +kernel), _, rfl, ?_⟩
    refine ⟨p, pp, bp, np, l, b, x, k, rfl, hS, hx, hn, ?_⟩
    rcases q with ⟨z, v, rfl, hv, q⟩ | ⟨hno, q⟩
    · have := hx.str_inv
      subst this
      exact .inl ⟨z, _, rfl, hv, z, v, rfl, q⟩
    · exact .inr ⟨hno, q⟩
/-- two sheets of the same kinds: the same blocks, or not as many -/
def spEqS (C : Addr) : Sp := fun vs H Q _ => ∃ (p q pp bp np pp' bp' np' : Addr) (l b b2 : List (Str × V)), vs = [.ref p, .ref q] ∧ SheetAt C H p pp bp np l b ∧ SheetAt C H q pp' bp' np' l b2 ∧ (l.map (·.1)).Nodup ∧ (b.map (·.1)).Nodup ∧ (b2.map (·.1)).Nodup ∧
  (∀ x ∈ l, flatR x.2 = true) ∧ (∀ x ∈ b, flatR x.2 = true) ∧
  ((b.length = b2.length ∧ (∀ x ∈ b, K1.look b2 x.1 = some x.2) ∧ Q (.bl true) H) ∨ (b.length ≠ b2.length ∧ Q (.bl false) H))
/-- what isinstance asks of the class -/
structure IsC (K : PySem.W.Frag) (C : Addr) : Prop where
  ha : PySem.W.findIn K (.ref C) "__class__" = some (some (.builtin "object.__class__"))
  hn : PySem.W.specialIn K (.builtin "object.__class__") "__get__" = some (some (.builtin "getset_descriptor.__get__"))
  ht : PySem.W.takesIn K (.builtin "object.__class__") = some true
  hm : PySem.W.mroIn K C (.type "object") = some true
theorem flat_sd {l l' : List (Str × V)} (h : SD l l') (f : ∀ x ∈ l, flatR x.2 = true) : ∀ x ∈ l', flatR x.2 = true := fun x hx => by
  have e := look_mem (h.val x hx)
  exact f _ e
theorem ok_eqS {f C : Addr} {fd : FuncData} (F : Fun K "__eq__" "Sheet.__eq__" sEq f fd) (B : Bi mg) (S : ClsS K mg C) (I : IsC K C) : FnOk P w K mg base CX0 1 f fd ["self", "other"] (spEqS C) := by
  refine F.ok scEq (fun vs H Q E h => ?_) (fun cdv A outer s H vs Q E hr h => ?_)
  · obtain ⟨p, q, pp, bp, np, pp', bp', np', l, b, b2, rfl, _⟩ := h
    rfl
  · obtain ⟨p, q, pp, bp, np, pp', bp', np', l, b, b2, rfl, ⟨⟨dx, h1⟩, ⟨l1, h2, h3⟩, ⟨b1, h4, h5, _⟩⟩, ⟨⟨dy, g1⟩, ⟨l2, g2, g3⟩, ⟨b3, g4, g5, _⟩⟩, ln, bn, b2n, lf, bf, k⟩ := h
    have hu : (A.deeper (envOfC "Sheet.__eq__" (defScope sEq) s.heap.objs.size f cdv)).units < cLine := by have := hr.un; omega
    refine ⟨_, pss_one (ps_ret (pe_and (pe_callB call_isi (by rfl) B.isi boot_isinstance (pa_cons (pv 1) (pa_cons (pe_glob rfl S.g (v := .ref C) rfl) pa_nil)))
      (pe_and (pe_cmpR (op_eqDR hu) (pe_fld (pv 0) rfl) (pe_fld (pv 1) rfl) (nomark _)) (pe_one (pe_cmpR (op_eqDR hu) (pe_fld (pv 0) rfl) (pe_fld (pv 1) rfl) (nomark _)))))), ?_⟩
    refine ⟨_, rfl, _, _, _, _, true, rfl, .own C, .base (.ins g1 S.cl I.ha I.hn I.ht I.hm), by unfold PySem.W.kitOne; rw [if_pos (by simp)], true, rfl, ?_⟩
    rw [if_pos rfl]
    refine ⟨_, rfl, p, C, dx, _, _, rfl, h1, S.cl, S.nP, flds_p _ _ _, _, rfl, q, C, dy, _, _, rfl, g1, S.cl, S.nP, flds_p _ _ _, pp, pp', _, _, rfl, rfl, h2, g2, .inl ⟨?_, ?_, true, rfl, ?_⟩⟩
    · unfold sk
      rw [List.length_map, List.length_map, h3.len, g3.len]
    · intro x hx
      obtain ⟨a, ha, rfl⟩ := List.mem_map.mp hx
      refine ⟨?_, flat_sd h3 lf a ha⟩
      show valV (sk l2) (Sum.inr a.1) = some a.2
      rw [sk_val, g3.look ln]
      exact h3.val a ha
    rw [if_pos rfl]
    refine ⟨_, rfl, p, C, dx, _, _, rfl, h1, S.cl, S.nB, flds_b _ _ _, _, rfl, q, C, dy, _, _, rfl, g1, S.cl, S.nB, flds_b _ _ _, bp, bp', _, _, rfl, rfl, h4, g4, ?_⟩
    have e1 : (sk b1).length = b.length := by unfold sk; rw [List.length_map, h5.len]
    have e2 : (sk b3).length = b2.length := by unfold sk; rw [List.length_map, g5.len]
    rw [e1, e2]
    rcases k with ⟨k1, k2, k3⟩ | ⟨k1, k3⟩
    · refine .inl ⟨k1, ?_, k3⟩
      intro x hx
      obtain ⟨a, ha, rfl⟩ := List.mem_map.mp hx
      refine ⟨?_, flat_sd h5 bf a ha⟩
      show valV (sk b3) (Sum.inr a.1) = some a.2
      rw [sk_val, g5.look b2n]
      exact k2 _ (look_mem (h5.val a ha))
    · exact .inr ⟨k1, k3⟩
end
end K1

set_option Elab.async false
set_option linter.all false
set_option maxRecDepth 100000
set_option maxHeartbeats 1000000
namespace K1
open PySem PySem.Spec PyProof.Rows L2
section
variable {M : Model} {A : Around} {E : Value → Shared → Prop} {s : Shared} {K : PySem.W.Frag} {x C f : Addr} {ox : Obj} {od : Option Obj}
theorem ifBoundU_K {name : Str} {refuse : Sem Value} {Q : Option Value → Shared → Prop} (X : K.In s.heap) (I : PySem.W.InstAt s.heap x ox C od) (hs : PySem.W.findIn K (.ref C) name = some (some (.ref f))) (hf : PySem.W.isFn K (.ref f) = true)
    (h : wpAny M A (call (.ref f) [.ref x]) (fun v => Q (some v)) E s) : wpAny M A (do
      let some (g, first) ← bindSpecialIfBound? (.ref x) name | return none
      if g == .none then return some (← refuse)
      return some (← call g first)) Q E s := by
  simp only [bindSpecialIfBound?]
  refine wpAny_bind (wpAny_bind (wpAny_bind (I.type.here ((PySem.W.looks_findIn X hs).here ?_))))
  refine wpAny_bind (wpAny_askSetting (wpAny_ite ?_))
  have fin : wpAny M A (call (.ref f) [.ref x] >>= fun v => pure (some v)) Q E s := wpAny_bind (wpAny_mono h (fun v s' h' => wpAny_pure h') fun _ _ h' => h')
  split
  · refine wpAny_bind ((PySem.W.bind_fn X _ (beq_iff_eq.mp hf)).here (wpAny_pure ?_))
    dsimp only
    rw [if_neg (by simp)]
    exact fin
  · refine wpAny_tryCatch (wpAny_bind ((PySem.W.bind_fn X _ (beq_iff_eq.mp hf)).here (wpAny_pure ?_)))
    dsimp only
    rw [if_neg (by simp)]
    exact fin
theorem pyIter_ownK {Q : Value → Shared → Prop} (X : K.In s.heap) (I : PySem.W.InstAt s.heap x ox C od) (hs : PySem.W.findIn K (.ref C) "__iter__" = some (some (.ref f))) (hf : PySem.W.isFn K (.ref f) = true)
    (h : wpAny M A (call (.ref f) [.ref x]) (fun v s' => ∃ it l i, v = .ref it ∧ s'.heap.get? it = some (GNX.itObj l i) ∧ Q (.ref it) s') E s) : wpAny M A (pyIter (.ref x)) Q E s := by
  unfold pyIter
  refine wpAny_bind (wpAny_bind (I.type.here ((PySem.W.looks_findIn X hs).here ?_)))
  dsimp only
  unfold callSpecialIfBoundUnlessNone?
  refine wpAny_bind (wpAny_holding (ifBoundU_K X I hs hf (wpAny_mono h (fun v s' hv => ?_) fun _ _ e => e)))
  obtain ⟨it, l, i, rfl, e, q⟩ := hv
  dsimp only
  have hT : s'.TypeIs (.ref it) "list_iterator" := ⟨_, e, rfl⟩
  exact wpAny_bind (wpAny_specialOf (name := Str.ofString "__next__") hT slot_listiter_next.lookup (wpAny_pure q))
end
section
variable {X : Cx} {CX : CXT} {n : Nat} {C f : Addr} {fd : FuncData} {ps : List Str} {sp : Sp} {E0 : XK}
theorem run_ownN {A : Around} {pins : List (Addr × Obj)} {σ : L2.St} {H : Hp} {s : Shared} {us : List Value} {vs : List V} {Q : VK} (F : FnOk X.prog X.w X.K X.mg X.base CX n f fd ps sp) (hb : Binds X.K fd ps []) (hx : Passes CX X E0) (sb : Sub X n A) (I : Inv X pins σ H s)
    (r2 : Vals vs us) (hsp : sp vs H Q E0) : wpAny (model X.prog X.w) A (call (.ref f) us) (EP X pins σ Q) X.xe s := by
  have e0 : Env0 X.prog X.w X.K X.mg X.base A X.stack s H := by
    have e := I.env0
    exact ⟨by rw [sb.fr]; exact e.frames, e.mod, e.bs, e.bsz, e.funs, e.frf, e.hok, e.bare⟩
  have hl := F.len _ _ _ _ hsp
  refine wpAny_call (codeAny_mono (F.run A X.stack s H ⟨us, []⟩ us vs _ E0 sb.room e0 (by
    have := hb s us I.kIn (by rw [List.append_nil, ← r2.length]; exact hl)
    rw [List.append_nil] at this
    exact this) r2 hsp) fun r s' hq => ?_)
  cases r with
  | error e => exact hx pins σ H s e s' I hq
  | ok fl =>
    cases fl with
    | ret w => exact I.after hq
    | next => exact False.elim hq
    | brk => exact False.elim hq
    | cont => exact False.elim hq
/-- len(o), by the class's own -/
theorem call_lenOwn (F : FnOk X.prog X.w X.K X.mg X.base CX n f fd ps sp) (hs : PySem.W.findIn X.K (.ref C) "__len__" = some (some (.ref f))) (hf : PySem.W.isFn X.K (.ref f) = true) (hb : Binds X.K fd ps []) (hx : Passes CX X E0) (hr : Room (n + 1) X.A) :
    CallR X (.builtin "len") (fun xs H Q => ∃ a dx fs, xs = [.ref a] ∧ H a = some (.ins C dx fs) ∧ sp [.ref a] H (fun v H' => ∃ m : Int, v = .int m ∧ (0 ≤ m ∧ m < 2 ^ 63) ∧ Q (.int m) H') E0) := by
  intro pins s σ H xs us Q I r h
  obtain ⟨a, dx, fs, rfl, ha, hsp⟩ := h
  obtain ⟨u, rfl, ru⟩ := vals1 r
  cases ru
  obtain ⟨mA, J, _⟩ := ins_get I.hok ha
  obtain ⟨od, J, _⟩ := J.look
  obtain ⟨m, hF⟩ := I.fr
  have sb : Sub X (n + 1) X.A := ⟨hr, rfl⟩
  refine PySem.W.len_K hF I.ok.mod.kin J hs hf (wpAny_mono (run_ownN F hb hx sb.in1 I (.cons (show L2.RelV (.ref a) (.ref a) from rfl) .nil) hsp) (fun v s' q => ?_) fun _ _ e => e)
  obtain ⟨z, H', I', rz, m, ez, hm, q⟩ := q
  subst ez
  obtain ⟨t, rfl⟩ := rz
  exact ⟨hm, .int m, H', I'.tok _, ⟨_, rfl⟩, q⟩
/-- x in o, x not in o, by the class's own -/
def rOwnIn (C : Addr) (sp : Sp) (E0 : XK) (g : Bool → Bool) : R2 := fun x y H Q => ∃ a dx fs, y = .ref a ∧ H a = some (.ins C dx fs) ∧ sp [.ref a, x] H (fun v H' => ∃ r, v = .bl r ∧ Q (.bl (g r)) H') E0
theorem op_inOwn (F : FnOk X.prog X.w X.K X.mg X.base CX n f fd ps sp) (hs : PySem.W.findIn X.K (.ref C) "__contains__" = some (some (.ref f))) (hf : PySem.W.isFn X.K (.ref f) = true) (hb : Binds X.K fd ps []) (hx : Passes CX X E0) (hr : Room n X.A) :
    OpR X (compareOp .In) (rOwnIn C sp E0 id) := by
  intro pins s σ H x y v u Q I rx ry h
  obtain ⟨a, dx, fs, rfl, ha, hsp⟩ := h
  cases ry
  obtain ⟨mA, J, _⟩ := ins_get I.hok ha
  obtain ⟨od, J, _⟩ := J.look
  obtain ⟨m, hF⟩ := I.fr
  refine PySem.W.in_K hF I.ok.mod.kin J hs hf (wpAny_mono (run_ownN F hb hx ⟨hr, rfl⟩ I (.cons (show L2.RelV (.ref a) (.ref a) from rfl) (.cons rx .nil)) hsp) (fun r s' q => ?_) fun _ _ e => e)
  obtain ⟨z, H', I', rz, b, ez, q⟩ := q
  subst ez
  cases rz
  exact wpAny_truthy_bool ⟨.bl b, H', I', rfl, q⟩
theorem op_notInOwn (F : FnOk X.prog X.w X.K X.mg X.base CX n f fd ps sp) (hs : PySem.W.findIn X.K (.ref C) "__contains__" = some (some (.ref f))) (hf : PySem.W.isFn X.K (.ref f) = true) (hb : Binds X.K fd ps []) (hx : Passes CX X E0) (hr : Room n X.A) :
    OpR X (compareOp .NotIn) (rOwnIn C sp E0 not) := by
  intro pins s σ H x y v u Q I rx ry h
  obtain ⟨a, dx, fs, rfl, ha, hsp⟩ := h
  cases ry
  obtain ⟨mA, J, _⟩ := ins_get I.hok ha
  obtain ⟨od, J, _⟩ := J.look
  obtain ⟨m, hF⟩ := I.fr
  refine PySem.W.notIn_K hF I.ok.mod.kin J hs hf (wpAny_mono (run_ownN F hb hx ⟨hr, rfl⟩ I (.cons (show L2.RelV (.ref a) (.ref a) from rfl) (.cons rx .nil)) hsp) (fun r s' q => ?_) fun _ _ e => e)
  obtain ⟨z, H', I', rz, b, ez, q⟩ := q
  subst ez
  cases rz
  exact wpAny_truthy_bool ⟨.bl (!b), H', I', rfl, q⟩
end
section
variable {X : Cx} {f C : Addr} {fd : FuncData} {tg e : Expr} {td : TE}
def iOwn (K : PySem.W.Frag) (C : Addr) (td : TE) : TI := fun σ H R => td σ H fun x H1 => ∃ p pp bp np l b, x = .ref p ∧ SheetAt C H1 p pp bp np l b ∧ R (Itl K np) H1
theorem pi_own (he : PE X e td) (F : Fun X.K "__iter__" "Sheet.__iter__" sIter f fd) (B : Bi X.mg) (S : ClsS X.K X.mg C) (mI : Meth X.K C "__iter__" f) (hb : Binds X.K fd ["self"] []) (hr : Room 1 X.A) : PI X tg e (iOwn X.K C td) := by
  refine ⟨fun pins s σ H R I h => ?_⟩
  refine thn (he.run pins s σ H _ I h) fun u s1 ⟨x, H1, I1, rx, p, pp, bp, np, l, b, ex, hS, q⟩ => ?_
  subst ex
  obtain rfl : u = Value.ref p := rx
  obtain ⟨⟨dx, h1⟩, _, ⟨b', h4, h5, h6⟩⟩ := id hS
  obtain ⟨mA, J, _⟩ := ins_get I1.hok h1
  obtain ⟨od, J, _⟩ := J.look
  refine pyIter_ownK I1.kIn J mI.at_ mI.fn ?_
  obtain ⟨oc, od', kV, doc, pm, an, cdv, ct, osl, rfl, lk, hcd⟩ := F.ex
  have bd := hb s1 [.ref p] I1.kIn rfl
  have rc : codeAny (model X.prog X.w) X.A (.call (.ref f) ⟨[.ref p], []⟩) (CR C8.CX0 X.stack X.prog X.w H1 s1 (fun v H' => ∃ it, v = .ref it ∧ H1 it = none ∧ s1.heap.objs.size ≤ it ∧ H' = upd H1 it (ItO np it 0)) C8.E0) s1 := by
    refine LamX.run_ofS (N := ["self"]) (ps := ["self"]) (us := [.ref p]) (vs := [.ref p]) lk hcd scIter hr I1.env0 bd (.cons rfl .nil) rfl fun hr' => ?_
    refine ⟨_, (show PSs (cxOf C8.CX0 X.prog X.w X.K X.mg X.base ["self"] "Sheet.__iter__" (defScope sIter) f cdv X.A X.stack s1 H1 C8.E0) (defBody sIter) _ from
      pss_one (ps_ret (pe_callB (show CallR (cxOf C8.CX0 X.prog X.w X.K X.mg X.base ["self"] "Sheet.__iter__" (defScope sIter) f cdv X.A X.stack s1 H1 C8.E0) _ (ItX.rIterN X.K s1.heap.objs.size) from ItX.call_iterN) (by rfl) B.iter boot_iter (pa_cons (pe_fld (pv 0) rfl) pa_nil)))), ?_⟩
    refine ⟨_, rfl, p, C, dx, _, _, rfl, h1, S.cl, S.nN, flds_n _ _ _, np, _, rfl, SqL.of h6, fun it nit hn => ?_⟩
    exact ⟨it, rfl, nit, hn, rfl⟩
  refine wpAny_call (codeAny_mono rc fun r s2 hq => ?_)
  cases r with
  | error e => exact (show False from hq).elim
  | ok fl =>
    cases fl with
    | ret u =>
      obtain ⟨z, H', I', rz, it, ez, hn, hsz, eH⟩ := I1.after hq
      subst ez
      subst eH
      cases rz
      have hi : (upd H1 it (ItO np it 0)) it = some (ItO np it 0) := upd_same
      have eo := itO_get I' hi
      refine ⟨it, np, 0, rfl, eo, ?_⟩
      have st : s2.heap.IsListIter it np 0 := ⟨_, eo, rfl, rfl⟩
      have hi' := hi
      unfold ItO at hi'
      have hd := ItX.inv_drop I' hi'
      rw [show ItX.dropH (upd H1 it (ItO np it 0)) it = H1 from ItX.dropH_upd hn] at hd
      refine ⟨it, [it], _, _, H1, rfl, hd, turn_list np it, st, fun b hb => ?_, q⟩
      have e : b = it := by simpa using hb
      rw [e]
      have fp := ItX.inv_fp I' hi (Nat.le_trans I1.sz hsz)
      rw [show ItX.dropH (upd H1 it (ItO np it 0)) it = H1 from ItX.dropH_upd hn] at fp
      exact fp
    | next => exact False.elim hq
    | brk => exact False.elim hq
    | cont => exact False.elim hq
end
end K1

set_option Elab.async false
set_option linter.all false
set_option maxRecDepth 100000
set_option maxHeartbeats 1000000
namespace K1
open PySem PySem.Spec PyProof.Rows L2
/-- a clause that names its exception: what its suite is asked -/
def tsAs (i : Nat) (ts : Addr → Value → Option Addr → TS) : Addr → Value → Option Addr → TS := fun a cls d D σ H =>
  ts a cls d { nx := fun σ' H' => D.nx (σ'.set i none) H', rt := D.rt, bk := fun σ' H' => D.bk (σ'.set i none) H', ct := fun σ' H' => D.ct (σ'.set i none) H' } (σ.set i (some (.ref a))) H
/-- clauses, some with a name -/
inductive Cl (X : Cx) : List ExceptHandler → List (Value × (Addr → Value → Option Addr → TS)) → Prop
  | done : Cl X [] []
  | plain {x : Str} {c : Value} {ts : Addr → Value → Option Addr → TS} {b₀ : Stmt} {suite : List Stmt} {p1 p2 : Pos} {hds : List ExceptHandler} {l : List (Value × (Addr → Value → Option Addr → TS))} (nm : Names X x c)
      (su : ∀ a oe cls d pn, Zc cls d oe → (∃ vs, oe.data = .fields vs) → PSs (X.suite a ((a, oe) :: pn)) (b₀ :: suite) (ts a cls d)) (more : Cl X hds l) :
      Cl X (.ExceptHandler (some (.Name x p1)) none (b₀ :: suite) p2 :: hds) ((c, ts) :: l)
  | named {x n : Str} {c : Value} {i : Nat} {ts : Addr → Value → Option Addr → TS} {b₀ : Stmt} {suite : List Stmt} {p1 p2 : Pos} {hds : List ExceptHandler} {l : List (Value × (Addr → Value → Option Addr → TS))} (at_ : X.N[i]? = some n) (lo : X.env.kindOf n = some .local) (nm : Names X x c)
      (su : ∀ a oe cls d pn, Zc cls d oe → (∃ vs, oe.data = .fields vs) → PSs (X.suite a ((a, oe) :: pn)) (b₀ :: suite) (ts a cls d)) (more : Cl X hds l) :
      Cl X (.ExceptHandler (some (.Name x p1)) (some n) (b₀ :: suite) p2 :: hds) ((c, tsAs i ts) :: l)
section
variable {X : Cx} {body : List Stmt} {h₀ : ExceptHandler} {hds : List ExceptHandler} {l : List (Value × (Addr → Value → Option Addr → TS))} {pos : Pos} {tb : WX → TS} {Wout : WX}
theorem ps_try_cl {orelse : List Stmt} {u : TS} (el : PSs X orelse u) (nd : X.N.Nodup) (hs : X.stack = X.env :: X.outer) (hf : X.env.frame = some X.env.locals) (tk : Takes X Wout)
    (hb : ∀ (W : WX) (pn : List (Addr × Obj)) (xe : Value → Shared → Prop), Takes (X.tr pn xe) W → PassesOwn (model X.prog X.w) X.A X.env xe → PSs (X.tr pn xe) body (tb W)) (hc : Cl X (h₀ :: hds) l) :
    PS X (.Try body (h₀ :: hds) orelse [] pos) (fun D σ H => tb (wMany X.K Wout D l) { D with nx := u D } σ H) := by
  refine ⟨fun pins s σ H D I h => ?_⟩
  have fr0 : X.A.frames = some (X.env :: X.outer) := I.ok.frames.trans (congrArg some hs)
  refine wpAny_Try_except ?_
  refine wpAny_mono ((hb (wMany X.K Wout D l) (X.pn ++ pins) (fun e s₁ => wpAny (model X.prog X.w) X.A (noteFrame e X.env) (fun _ s₂ => wpAny (model X.prog X.w) X.A (setFlight e none) (fun _ s₃ =>
    wpAny (model X.prog X.w) X.A (handleBy e X.env (h₀ :: hds)) (SP X pins D) X.xe s₃) X.xe s₂) X.xe s₁) (fun e s' out => ?_) PassesOwn.looking).run [] s σ H { D with nx := u D } (I.toTry _) h) (fun fl s1 got => ?_) (fun _ _ z => z)
  · obtain ⟨a, B, s0, _, σ1, H1, cls, d, rfl, It, nb, up1, sky, free, os, ag, wish⟩ := out
    have I1 : Inv X pins σ1 H1 s0 := It.ofTry I.ok
    rw [hs] at sky
    refine Sky.land Zc.steady fr0 hf sky fun h3 land up2 => ?_
    have up := up1.trans up2
    have I3 : Inv X pins σ1 H1 { s' with heap := h3 } := I1.landed nb land.1 up os ag
    obtain ⟨oe, vs, at3, zc3, dat3⟩ := land.there
    have apart : a ∉ frs (X.env :: X.outer) := fun m => by
      obtain ⟨_, o', e', no⟩ := land.2.2.1.mem m
      rw [at3] at e'
      cases e'
      exact no _ dat3
    have aL : a ≠ X.env.locals := fun z => apart (List.mem_filterMap.mpr ⟨X.env, List.mem_cons_self, by rw [hf, z]⟩)
    have aF : a ∉ X.fs := fun m => by
      obtain ⟨e, m1, m2⟩ := List.mem_filterMap.mp m
      exact apart (List.mem_filterMap.mpr ⟨e, List.mem_cons_of_mem _ m1, m2⟩)
    have Su := I3.suite at3 dat3 free aL aF
    -- the name of a clause's class, and whether it is this exception's
    have ask : ∀ {x : Str} {c : Value} {p1 : Pos} {b : Bool} {Q : Bool → Shared → Prop} {E : Value → Shared → Prop}, Names X x c → PySem.W.exmOne X.K cls c = some b → Q b { s' with heap := h3 } →
        wpAny (model X.prog X.w) (X.A.mark (some (.ref a))) (eval (.Name x p1) X.env) (fun v s4 => v = c ∧ s4 = { s' with heap := h3 }) E { s' with heap := h3 } := fun {x c p1 b Q E} nm _ _ => by
      obtain ⟨gl, db, g | ⟨g, bo, nn⟩⟩ := nm
      · exact ld_glob (X := X.suite a ((a, oe) :: (X.pn ++ pins))) Su gl g ⟨rfl, rfl⟩ db
      · exact ld_blt (X := X.suite a ((a, oe) :: (X.pn ++ pins))) Su gl g bo ⟨rfl, rfl⟩ nn db
    have tyE : PySem.W.Looks (model X.prog X.w) h3 (typeOf (.ref a)) cls := fun A Q E s k q => wpAny_typeOf_ref (k _ _ at3) (by rw [zc3.1]; exact q)
    have walk : ∀ {hs' : List ExceptHandler} {l' : List (Value × (Addr → Value → Option Addr → TS))}, Cl X hs' l' → wMany X.K Wout D l' cls d σ1 H1 →
        wpAny (model X.prog X.w) X.A (handleBy (.ref a) X.env hs') (SP X pins D) X.xe { s' with heap := h3 } := by
      intro hs' l' cl
      induction cl with
      | done =>
        intro wsh
        refine wpAny_handleBy_nil ?_
        obtain ⟨k1, k2, k3, oe', vs', T, oT, ts', he, hz, hd, h1, hr⟩ := id land
        unfold PySem.passOn
        refine wpAny_bind (wpAny_field he hd h1 ?_)
        rw [if_neg (show ¬ ((Value.ref T == Value.none) = true) from by simp)]
        have away : wpAny (model X.prog X.w) X.A (setFlight (.ref a) X.env.frame) (fun _ s4 => wpAny (model X.prog X.w) X.A (throw (.ref a) : Sem Flow) (SP X pins D) X.xe s4) X.xe { s' with heap := h3 } := by
          rw [hf]
          refine HandSPX.setFlight_upZ land fun h4 fly up4 => wpAny_throw (tk _ _ ?_)
          exact ⟨a, B, s0, pins, σ1, H1, cls, d, rfl, I1, nb, up.trans up4, .inr (.inr (by rw [hs]; exact fly)), free, os, ag, wsh⟩
        first
          | exact wpAny_bind (wpAny_pure (wpAny_bind away))
          | exact wpAny_bind away
      | @plain x c ts b₀ suite p1 p2 hs2 l2 nm su more ih =>
        rintro ⟨b, eb, yes, no⟩
        refine wpAny_handleBy_cons (codeAny_handlers_test ?_) (by intro q; cases q)
        refine wpAny_mono (ask (Q := fun _ _ => True) nm eb trivial) (fun v s4 z => ?_) fun _ _ z => z
        obtain ⟨rfl, rfl⟩ := z
        refine (PySem.W.exm_one (M := model X.prog X.w) I3.kIn tyE eb).here ?_
        cases b with
        | false => exact ih (no rfl)
        | true =>
          refine codeAny_handlers_suite ?_
          refine HandSPX.lands_againZ land fun h4 land4 up4 => ?_
          have I4 : Inv X pins σ1 H1 { s' with heap := h4 } := I1.landed nb land4.1 (up.trans up4) os ag
          obtain ⟨oe4, _, at4, zc4, dat4⟩ := land4.there
          have Su4 := I4.suite at4 dat4 free aL aF
          refine wpAny_mono ((su a oe4 cls d (X.pn ++ pins) zc4 ⟨_, dat4⟩).run [] _ _ H1 _ Su4 (yes rfl a free)) (fun fl s6 q => ?_) (fun _ _ z => False.elim z)
          cases fl with
          | ret w => obtain ⟨v6, σ6, H6, J6, r6, q6⟩ := q; exact ⟨_, _, _, J6.unsuite I.ok, r6, q6⟩
          | next => obtain ⟨σ6, H6, J6, q6⟩ := q; exact ⟨_, _, J6.unsuite I.ok, q6⟩
          | brk => obtain ⟨σ6, H6, J6, q6⟩ := q; exact ⟨_, _, J6.unsuite I.ok, q6⟩
          | cont => obtain ⟨σ6, H6, J6, q6⟩ := q; exact ⟨_, _, J6.unsuite I.ok, q6⟩
      | @named x n c i ts b₀ suite p1 p2 hs2 l2 at_ lo nm su more ih =>
        rintro ⟨b, eb, yes, no⟩
        refine wpAny_handleBy_cons (codeAny_handlers_test ?_) (by intro q; cases q)
        refine wpAny_mono (ask (Q := fun _ _ => True) nm eb trivial) (fun v s4 z => ?_) fun _ _ z => z
        obtain ⟨rfl, rfl⟩ := z
        refine (PySem.W.exm_one (M := model X.prog X.w) I3.kIn tyE eb).here ?_
        cases b with
        | false => exact ih (no rfl)
        | true =>
          refine codeAny_handlers_suite_as ?_
          refine HandSPX.lands_againZ land fun h4 land4 up4 => ?_
          have I4 : Inv X pins σ1 H1 { s' with heap := h4 } := I1.landed nb land4.1 (up.trans up4) os ag
          obtain ⟨oe4, _, at4, zc4, dat4⟩ := land4.there
          have Su4 := I4.suite at4 dat4 free aL aF
          have loc : Loc X.env.scope n := .inl lo
          refine store_ok (X := X.suite a ((a, oe4) :: (X.pn ++ pins))) (v := .ref a) Su4 nd at_ loc rfl (fun s5 Su5 => ?_) (.inr lo)
          refine wpAny_mono ((su a oe4 cls d (X.pn ++ pins) zc4 ⟨_, dat4⟩).run [] s5 _ H1 _ Su5 (yes rfl a free)) (fun fl s6 q => ?_) (fun _ _ z => False.elim z)
          cases fl with
          | ret w => obtain ⟨v6, σ6, H6, J6, r6, q6⟩ := q; exact gone_ok (J6.unsuite I.ok) nd at_ lo fun s7 J7 => ⟨_, _, _, J7, r6, q6⟩
          | next => obtain ⟨σ6, H6, J6, q6⟩ := q; exact gone_ok (J6.unsuite I.ok) nd at_ lo fun s7 J7 => ⟨_, _, J7, q6⟩
          | brk => obtain ⟨σ6, H6, J6, q6⟩ := q; exact gone_ok (J6.unsuite I.ok) nd at_ lo fun s7 J7 => ⟨_, _, J7, q6⟩
          | cont => obtain ⟨σ6, H6, J6, q6⟩ := q; exact gone_ok (J6.unsuite I.ok) nd at_ lo fun s7 J7 => ⟨_, _, J7, q6⟩
    exact walk hc wish
  · cases fl with
    | ret w => obtain ⟨v, σ1, H1, J, r, q⟩ := got; exact ⟨v, σ1, H1, J.ofTry I.ok, r, q⟩
    | next => obtain ⟨σ1, H1, J, q⟩ := got; exact el.run pins s1 σ1 H1 D (J.ofTry I.ok) q
    | brk => obtain ⟨σ1, H1, J, q⟩ := got; exact ⟨σ1, H1, J.ofTry I.ok, q⟩
    | cont => obtain ⟨σ1, H1, J, q⟩ := got; exact ⟨σ1, H1, J.ofTry I.ok, q⟩
end
end K1

set_option Elab.async false
set_option linter.all false
set_option maxRecDepth 100000
set_option maxHeartbeats 1000000
namespace K1
open PySem PySem.Spec PyProof.Rows L2
abbrev sLJoint : Stmt := topS 26
abbrev sLJoints : Stmt := topS 27
abbrev sErr : Stmt := topS 28
theorem scLJoint : FnScope ["sheet", "kind"] ["sheet", "kind"] (defScope sLJoint) := ⟨rfl, rfl, rfl, by decide +kernel, rfl, by decide +kernel, by decide +kernel⟩
theorem scLJoints : FnScope ["sheet", "kind"] ["sheet"] (defScope sLJoints) := ⟨rfl, rfl, rfl, by decide +kernel, rfl, by decide +kernel, by decide +kernel⟩
theorem scErr : FnScope ["work", "error"] ["work"] (defScope sErr) := ⟨rfl, rfl, rfl, by decide +kernel, rfl, by decide +kernel, by decide +kernel⟩
/-- which error a clause takes -/
structure Exm (K : PySem.W.Frag) (CS CB CK CE : Addr) : Prop where
  ss : PySem.W.exmOne K (.ref CS) (.ref CS) = some true
  bs : PySem.W.exmOne K (.ref CB) (.ref CS) = some false
  bb : PySem.W.exmOne K (.ref CB) (.ref CB) = some true
  ks : PySem.W.exmOne K (.ref CK) (.ref CS) = some false
  kb : PySem.W.exmOne K (.ref CK) (.ref CB) = some false
  kk : PySem.W.exmOne K (.ref CK) (.ref CK) = some true
  is : PySem.W.kitOne K (.ref CS) (.ref CE) = some true
/-- what _law_error makes of its lambda's reading -/
def TErr (CS CB CK : Addr) : (XK → Hp → VK → Prop) → Hp → VK → Prop := fun tl H Q =>
  tl (fun cls d H' => d = none ∧ ((cls = .ref CS ∧ Q (.str "BadSheet") H') ∨ (cls = .ref CB ∧ Q (.str "BadBlock") H') ∨ (cls = .ref CK ∧ Q (.str "BadKind") H'))) H (fun _ H' => Q .non H')
theorem err_gives {X : Cx} {g CS CB CK CE : Addr} {cdg : Value} {q : Str} (mi : X.mg "isinstance" = none) (gS : X.mg "BadSheet" = some (.ref CS)) (gB : X.mg "BadBlock" = some (.ref CB)) (gK : X.mg "BadKind" = some (.ref CK)) (gE : X.mg "EndsmeetError" = some (.ref CE))
    (E : Exm X.K CS CB CK CE) (EC : ExcC X.K CS) : LamX.GivesTo X ["work", "error"] "_law_error" (defScope sErr) g cdg (defBody sErr) "work" q (TErr CS CB CK) := by
  intro f c' s H Q tl act hcode h
  refine ⟨_, pss_one (ps_try_cl (X := (cxOf C8.CX0 X.prog X.w X.K X.mg X.base ["work", "error"] "_law_error" (defScope sErr) g cdg X.A X.stack s H C8.E0).nox)
      (tb := fun W D σ H => ∃ Ech : XK, (∀ cls d σ' H', Ech cls d H' → W cls d σ' H') ∧ σ[0]? = some (some (.ref f)) ∧ H c' = some (LamX.CodeO c' q) ∧ tl Ech H (fun _ H' => D.nx σ H'))
      (pss_one (ps_ret pe_non)) scErr.nd rfl rfl takes0 (fun W pn xe tk _ => ?_)
      (Cl.named (i := 1) (c := .ref CS) (ts := fun a cls d => fun D σ H => cls = .ref CS ∧ d = none ∧ (∃ σ0 : L2.St, σ = σ0.set 1 (some (.ref a))) ∧ D.rt (.str "BadSheet") H) rfl rfl ⟨rfl, by decide, .inl gS⟩ (fun a oe cls d pn hz hf => ?_)
        (Cl.plain (c := .ref CB) ⟨rfl, by decide, .inl gB⟩ (fun a oe cls d pn _ _ => pss_one (ps_ret pe_str))
          (Cl.plain (c := .ref CK) ⟨rfl, by decide, .inl gK⟩ (fun a oe cls d pn _ _ => pss_one (ps_ret pe_str)) Cl.done)))), ?_⟩
  · refine ⟨fun pins s' σ H' D I h' => ?_⟩
    obtain ⟨Ech, hW, h1, h2, h3⟩ := h'
    exact (pss_one (ps_expr (act W pn xe Ech _ _ tk hW))).run pins s' σ H' D I ⟨h1, h2, h3⟩
  · refine ⟨fun pins s' σ H' D I h' => ?_⟩
    obtain ⟨rfl, rfl, ⟨σ0, es⟩, q⟩ := h'
    have hl : σ.length = 2 := I.len
    have hx : σ[1]? = some (some (.ref a)) := by
      rw [es] at hl ⊢
      rw [List.length_set] at hl
      rw [List.getElem?_set_self (by omega)]
    have gl : Gl ((cxOf C8.CX0 X.prog X.w X.K X.mg X.base ["work", "error"] "_law_error" (defScope sErr) g cdg X.A X.stack s H C8.E0).nox.suite a ((a, oe) :: pn)) "EndsmeetError" := rfl
    have cE := call_isE (X := (cxOf C8.CX0 X.prog X.w X.K X.mg X.base ["work", "error"] "_law_error" (defScope sErr) g cdg X.A X.stack s H C8.E0).nox) (a := a) (pn := pn) EC hz hf
    refine PSs.run (X := (cxOf C8.CX0 X.prog X.w X.K X.mg X.base ["work", "error"] "_law_error" (defScope sErr) g cdg X.A X.stack s H C8.E0).nox.suite a ((a, oe) :: pn)) (pss_one (ps_ret (pe_ifExp (pt_val (pe_callB cE (by rfl) mi boot_isinstance (pa_cons (pv 1) (pa_cons (pe_glob gl gE (v := .ref CE) rfl) pa_nil)))) pe_str pe_str))) pins s' σ H' D I ?_
    refine ⟨_, hx, _, _, true, rfl, fun u r => r, E.is, true, rfl, ?_⟩
    exact q
  · refine ⟨_, fun cls d σ' H' hE => ?_, rfl, hcode, h⟩
    obtain ⟨rfl, ⟨rfl, q⟩ | ⟨rfl, q⟩ | ⟨rfl, q⟩⟩ := hE
    · exact ⟨true, E.ss, fun _ a _ => ⟨rfl, rfl, ⟨_, rfl⟩, q⟩, fun z => Bool.noConfusion z⟩
    · exact ⟨false, E.bs, fun z => Bool.noConfusion z, fun _ => ⟨true, E.bb, fun _ a _ => q, fun z => Bool.noConfusion z⟩⟩
    · exact ⟨false, E.ks, fun z => Bool.noConfusion z, fun _ => ⟨false, E.kb, fun z => Bool.noConfusion z, fun _ => ⟨true, E.kk, fun _ a _ => q, fun z => Bool.noConfusion z⟩⟩⟩
section
variable {P : Program} {w : World} {K : PySem.W.Frag} {mg : Str → Option Value} {base : Heap}
def spLJoint : Sp := fun vs H Q _ => ∃ (T A B : Addr) (ps : List (Str × Str)) (z y : Str), vs = [.ref T, .str z] ∧ H T = some (.lst [.ref A, .ref B]) ∧ Rd H A (.dK (pk ps)) ∧ K1.look ps z = some y ∧ ∀ H', Same H H' → Q (.str (minS z y)) H'
theorem ok_ljoint {f : Addr} {fd : FuncData} (F : Fun K "_law_joint" "_law_joint" sLJoint f fd) (B : Bi mg) : FnOk P w K mg base CX0 1 f fd ["sheet", "kind"] spLJoint := by
  refine F.ok scLJoint (fun vs H Q E h => ?_) (fun cdv A outer s H vs Q E hr h => ?_)
  · obtain ⟨T, A, B, ps, z, y, rfl, _⟩ := h
    rfl
  · obtain ⟨T, D, G, ps, z, y, rfl, hT, hD, hl, q⟩ := h
    have hu := hu_of hr
    refine ⟨_, pss_one (ps_ret (pe_callB (cr_minL2 rfl) (by rfl) B.min boot_min (pa_cons (pe_lst (pa_cons (pv 1) (pa_cons (pe_dget hu (pe_ix ix_list (pv 0) pe_int (fun _ _ => rfl)) (pv 1) (fun _ _ => rfl)) pa_nil))) pa_nil))), ?_⟩
    refine ⟨_, rfl, _, rfl, T, _, _, _, rfl, rfl, SqL.of hT, at_of (j := 0) rfl rfl, _, rfl, D, .str y, rfl, .inl ⟨_, Sum.inr z, hD, rfl, ?_⟩, (by show 2 ≤ sizeLine; decide), fun L nL => ?_⟩
    · rw [← sk_pl, sk_val, look_pl, hl]
      rfl
    · exact ⟨L, z, y, rfl, SqL.of upd_same, q _ (same_upd nL)⟩
def spLJoints : Sp := fun vs H Q _ => ∃ (T A B : Addr) (ps : List (Str × Str)), vs = [.ref T] ∧ H T = some (.lst [.ref A, .ref B]) ∧ H A = some (.dK (pk ps)) ∧ (ps.map (·.1)).Nodup ∧ ps.length ≤ 60 ∧ (∀ p ∈ ps, ∃ y, K1.look ps p.1 = some y) ∧
  ∀ (L : Addr) (js : List Str) (H' : Hp), js.Perm ((ps.filter jt).map (·.1)) → sortedS js = true → H L = none → H' L = some (.lst (js.map V.str)) → Same H H' → Q (.ref L) H'
theorem ok_ljoints {f : Addr} {fd : FuncData} (F : Fun K "_law_joints" "_law_joints" sLJoints f fd) (B : Bi mg) : FnOk P w K mg base CX0 1 f fd ["sheet"] spLJoints := by
  refine F.ok scLJoints (fun vs H Q E h => ?_) (fun cdv A outer s H vs Q E hr h => ?_)
  · obtain ⟨T, A, B, ps, rfl, _⟩ := h
    rfl
  · obtain ⟨T, D, G, ps, rfl, hT, hD, hn, hlen, hall, q⟩ := h
    have hu := hu_of hr
    refine ⟨_, pss_one (ps_ret (pe_callB cr_sortedS (by rfl) B.sorted boot_sorted (pa_cons
      (pe_lock (pe_lc (own := [("kind", 1)]) (g := gName 1) rfl scLJoints.nd (pi_keys (pe_ix ix_list (pv 0) pe_int (fun _ _ => rfl))) (blkOk_by (own := [("kind", 1)]) (N := ["sheet", "kind"]) (sc := defScope sLJoints) (by decide +kernel))
        (fun _ _ _ _ _ => pg_name (i := 1) scLJoints.nd rfl (Or.inl rfl))
        (fun _ _ _ _ _ => pts_one (pt_cmpR op_le_str (pv 1) (pe_dget hu (pe_ix (show IxR _ (rIxL K) from ix_list) (pv 0) pe_int (fun _ _ => rfl)) (pv 1) (fun _ _ => rfl)) (nomark _))) (fun _ _ _ _ _ => pv 1))) pa_nil))), ?_⟩
    have nTD : T ≠ D := ne_of hT hD (by intro z; cases z)
    refine ⟨D, _, hD, True.intro, fun od => ⟨_, rfl, T, _, _, _, rfl, rfl, SqL.of (by rw [upd_ne nTD]; exact hT), at_of (j := 0) rfl rfl, D, od, rfl, .inl ⟨_, upd_same, fun L nL => ?_⟩⟩⟩
    have nLD : L ≠ D := fun e => by rw [e, upd_same] at nL; cases nL
    have nL0 : H L = none := by rw [upd_ne nLD] at nL; exact nL
    refine lc_keys (fun i H2 => H2 L = some (.lst ((((ps.take i).filter jt).map (·.1)).map V.str)) ∧ ∀ c o, c ≠ L → (upd H D (.frz od (.dK (pk ps)))) c = some o → H2 c = some o) ⟨upd_same, fun c o n e => by rw [upd_ne n]; exact e⟩ (fun i H2 q => q.2 _ _ nLD.symm upd_same) ?_ ?_
    · rintro i k v H2 hkv ⟨e1, e2⟩
      obtain ⟨a, ha, rfl, rfl⟩ : ∃ a, ps[i]? = some a ∧ k = Sum.inr a.1 ∧ v = .str a.2 := by
        unfold pk at hkv
        rw [List.getElem?_map] at hkv
        cases hp : ps[i]? with
        | none => rw [hp] at hkv; cases hkv
        | some a =>
          rw [hp] at hkv
          have := Option.some.inj hkv
          exact ⟨a, rfl, (congrArg Prod.fst this).symm, (congrArg Prod.snd this).symm⟩
      have hl := look_some hn (List.mem_of_getElem? ha)
      have eT := e2 T _ (fun e => by rw [e] at hT; rw [hT] at nL0; cases nL0) (by rw [upd_ne nTD]; exact hT)
      refine ⟨rfl, _, rfl, _, rfl, T, _, _, _, rfl, rfl, SqL.of eT, at_of (j := 0) rfl rfl, _, rfl, D, .str a.2, rfl, .inl ⟨_, Sum.inr a.1, .inr ⟨od, e2 _ _ nLD.symm upd_same⟩, rfl, ?_⟩, _, _, rfl, rfl, _, rfl, ?_⟩
      · rw [← sk_pl, sk_val, look_pl, hl]
        rfl
      show if jt a = true then _ else _
      cases hj : jt a with
      | true =>
        rw [if_pos rfl]
        refine ⟨_, rfl, _, e1, ?_, ?_, fun c u n e => by rw [upd_ne n]; exact e2 c u n e⟩
        · rw [List.length_map, List.length_map]
          refine small1000 (Nat.le_trans (List.length_filter_le _ _) (Nat.le_trans (List.length_take_le _ _) ?_))
          have := (List.getElem?_eq_some_iff.mp ha).1
          omega
        · rw [upd_same, List.take_add_one, ha, List.filter_append, List.map_append, List.map_append]
          simp [hj]
          rfl
      | false =>
        rw [if_neg Bool.false_ne_true]
        refine ⟨?_, e2⟩
        rw [List.take_add_one, ha, List.filter_append]
        simp only [Option.toList, List.filter_cons, hj, List.filter_nil, Bool.false_eq_true, if_false, List.append_nil]
        exact e1
    · rintro H2 ⟨e1, e2⟩
      have el : ps.take (pk ps).length = ps := by unfold pk; rw [List.length_map]; exact List.take_length
      rw [el] at e1
      have s2 : Same (upd H D (.frz od (.dK (pk ps)))) H2 := fun c o e => e2 c o (ne_of_none e nL) e
      refine ⟨e2 _ _ nLD.symm upd_same, L, _, rfl, SqL.of (by rw [upd_ne nLD]; exact e1), ?_, fun ys p perm srt np => ?_⟩
      · rw [List.length_map]
        have := List.length_filter_le jt ps
        omega
      · have s3 := Same.lock hD s2
        exact q p ys _ perm srt (s3.free np) upd_same (s3.trans (same_upd np))
end
end K1

set_option Elab.async false
set_option linter.all false
set_option maxRecDepth 100000
set_option maxHeartbeats 1000000
namespace K1
open PySem PySem.Spec PyProof.Rows L2
/-- a drawn sheet: the list of its two dicts -/
structure ShD (H : Hp) (T A B : Addr) (ps : List (Str × Str)) (bs : List (Str × Addr)) : Prop where
  t : H T = some (.lst [.ref A, .ref B])
  a : H A = some (.dK (pk ps))
  b : H B = some (.dK (bk bs))
  P : PartOk ps
  O : BlkOk H ps bs
  p0 : ps ≠ []
  p8 : ps.length ≤ 8
  b0 : bs ≠ []
  b8 : bs.length ≤ 8
theorem ShD.nAB {H : Hp} {T A B : Addr} {ps : List (Str × Str)} {bs : List (Str × Addr)} (h : ShD H T A B ps bs) : A ≠ B := fun e => by
  have h1 := h.a
  rw [e, h.b] at h1
  cases bs with
  | nil => exact h.b0 rfl
  | cons p r =>
    cases ps with
    | nil => exact h.p0 rfl
    | cons q s =>
      have h2 := HO.dK.inj (Option.some.inj h1)
      have h3 := (List.cons.inj h2).1
      exact V.noConfusion (congrArg Prod.snd h3)
theorem ShD.same {H H' : Hp} {T A B : Addr} {ps : List (Str × Str)} {bs : List (Str × Addr)} (h : ShD H T A B ps bs) (e : Same H H') : ShD H' T A B ps bs :=
  ⟨e _ _ h.t, e _ _ h.a, e _ _ h.b, h.P, h.O.same fun b xs q => e _ _ q, h.p0, h.p8, h.b0, h.b8⟩
theorem ShD.kp {H H' : Hp} {d sc T A B : Addr} {ps : List (Str × Str)} {bs : List (Str × Addr)} (h : ShD H T A B ps bs) (hD : DrawAt H d sc) (n : T ≠ d) (e : Kp d H H') : ShD H' T A B ps bs := by
  obtain ⟨ns, k, h1, _⟩ := hD.ex
  exact ⟨e _ _ n h.t, e _ _ (ne_of h.a h1 (by intro z; cases z)) h.a, e _ _ (ne_of h.b h1 (by intro z; cases z)) h.b, h.P, h.O.same fun b xs q => e _ _ (ne_of q h1 (by intro z; cases z)) q, h.p0, h.p8, h.b0, h.b8⟩
section
variable {P : Program} {w : World} {K : PySem.W.Frag} {mg : Str → Option Value} {base : Heap}
def spSheet : Sp := fun vs H Q _ => ∃ (d sc : Addr) (j m t : Int), vs = [.ref d, .int j, .int m, .int t] ∧ DrawAt H d sc ∧ 1 ≤ j ∧ j ≤ 4 ∧ 1 ≤ m ∧ m ≤ 8 ∧ 1 ≤ t ∧ t ≤ 4 ∧
  ∀ (T A B : Addr) (ps : List (Str × Str)) (bs : List (Str × Addr)) (H' : Hp), ShD H' T A B ps bs → H T = none → H A = none → H B = none → DrawAt H' d sc → Kp d H H' → Q (.ref T) H'
theorem ok_sheet {f fP fB : Addr} {fd fdP fdB : FuncData} (F : Fun K "_law_sheet" "_law_sheet" sSheet f fd) (dP : D K mg "_law_partners" sPartners ["draw", "many"] fP fdP) (GP : FnOk P w K mg base CX0 7 fP fdP ["draw", "many"] spPartners)
    (dB : D K mg "_law_blocks" sBlocks ["draw", "partners", "many", "top"] fB fdB) (GB : FnOk P w K mg base CX0 7 fB fdB ["draw", "partners", "many", "top"] spBlocks) : FnOk P w K mg base CX0 8 f fd ["draw", "joints", "many", "top"] spSheet := by
  refine F.ok scSheet (fun vs H Q E h => ?_) (fun cdv A outer s H vs Q E hr h => ?_)
  · obtain ⟨d, sc, j, m, t, rfl, _⟩ := h
    rfl
  · obtain ⟨d, sc, j, m, t, rfl, hD, j1, j4, m1, m8, t1, t4, q⟩ := h
    refine ⟨_, pss_cons (ps_set (i := 4) scSheet.nd rfl (.inl rfl) (pe_call GP hr (by rfl) dP.m dP.F.kp dP.b .nil pass0 (pa_cons (pv 0) (pa_cons (pv 1) pa_nil))))
      (pss_one (ps_ret (pe_lst (pa_cons (pv 4) (pa_cons (pe_call GB hr (by rfl) dB.m dB.F.kp dB.b .nil pass0 (pa_cons (pv 0) (pa_cons (pv 4) (pa_cons (pv 2) (pa_cons (pv 3) pa_nil))))) pa_nil))))), ?_⟩
    refine ⟨_, rfl, _, rfl, d, sc, j, rfl, hD, j1, j4, fun A ps H1 pO p0 p8 nA e1 D1 k1 => ?_⟩
    refine ⟨_, rfl, _, rfl, _, rfl, _, rfl, _, rfl, d, sc, A, m, t, ps, rfl, D1, e1, p0, p8, m1, m8, t1, t4, fun B bs H2 bO b0 b8 nB e2 D2 k2 => ?_⟩
    refine ⟨(by show 2 ≤ sizeLine; decide), fun T nT => ?_⟩
    have nAd := hD.nd nA
    have nTd := D2.nd nT
    have nTs := D2.ns nT
    have eA := k2 _ _ nAd e1
    have nTA : A ≠ T := ne_of_none eA nT
    have nTB : B ≠ T := ne_of_none e2 nT
    refine q T A B ps bs _ ⟨upd_same, ?_, ?_, pO, bO.same fun b xs z => ?_, p0, p8, b0, b8⟩ ?_ nA ?_ (D2.upd nTd nTs) ((k1.trans k2).trans (Kp.of (same_upd nT)))
    · rw [upd_ne nTA]; exact eA
    · rw [upd_ne nTB]; exact e2
    · rw [upd_ne (ne_of_none z nT)]; exact z
    · exact k1.free nTd (k2.free nTd nT)
    · exact k1.free (D1.nd nB) nB
end
end K1

set_option Elab.async false
set_option linter.all false
set_option maxRecDepth 100000
set_option maxHeartbeats 1000000
namespace K1
open PySem PySem.Spec PyProof.Rows L2
/-- a pair that no sheet is made of -/
def Bad (P : Program) (w : World) (H : Hp) (x y : V) : Prop :=
  PartV H x false ∨ (PartV H x true ∧ ∃ (pa : Addr) (l : List (Str × V)), x = .ref pa ∧ H pa = some (.dK (sk l)) ∧ y ≠ .ref pa ∧ BlkV P w H l y false)
theorem Bad.same {P : Program} {w : World} {H H' : Hp} {x y : V} (h : Bad P w H x y) (e : Same H H') : Bad P w H' x y := by
  rcases h with h | ⟨h, pa, l, h1, h2, h3, h4⟩
  · exact .inl (h.same e)
  · exact .inr ⟨h.same e, pa, l, h1, e _ _ h2, h3, h4.same e⟩
theorem w_ok {z : Str} (h : IsW z) : sOk (.str z) := by
  refine ⟨Nat.le_of_lt (small1000 (Nat.le_trans h.hi (by decide))), ?_⟩
  unfold PySem.PyData.strOk
  rw [Array.all_eq_true']
  intro c hc
  have := h.ab c (Array.mem_toList_iff.mpr hc)
  exact decide_eq_true (by omega)
theorem not_w {z : Str} (h : wordB z = false) : ¬ IsW z := fun q => by rw [q.b] at h; cases h
/-! what a put leaves -/
section
variable {κ : Type} [DecidableEq κ]
theorem put_has (kvs : List (κ × V)) (k : κ) (v : V) : (k, v) ∈ putK kvs k v := by
  unfold putK
  by_cases h : (kvs.any fun kv => decide (kv.1 = k)) = true
  · rw [if_pos h]
    obtain ⟨p, hp, e⟩ := List.any_eq_true.mp h
    have e := of_decide_eq_true e
    exact List.mem_map.mpr ⟨p, hp, by rw [if_pos e, e]⟩
  · rw [if_neg h]
    exact List.mem_append_right _ (List.mem_singleton.mpr rfl)
theorem put_of {kvs : List (κ × V)} {k : κ} {v : V} {p : κ × V} (h : p ∈ putK kvs k v) : p = (k, v) ∨ p ∈ kvs := by
  unfold putK at h
  split at h
  · obtain ⟨q, hq, e⟩ := List.mem_map.mp h
    split at e
    · next e1 => subst e; exact .inl (by rw [e1])
    · subst e; exact .inr hq
  · rcases List.mem_append.mp h with h | h
    · exact .inr h
    · exact .inl (List.mem_singleton.mp h)
theorem put_nd {kvs : List (κ × V)} (k : κ) (v : V) (h : (kvs.map (·.1)).Nodup) : ((putK kvs k v).map (·.1)).Nodup := by
  cases hv : valV kvs k with
  | none => exact nd_putK v h hv
  | some u =>
    unfold putK
    rw [valV_any, hv]
    rw [if_pos (show (some u).isSome = true from rfl), List.map_map]
    have e : kvs.map ((·.1) ∘ fun kv : κ × V => if kv.1 = k then (kv.1, v) else kv) = kvs.map (·.1) := List.map_congr_left fun p _ => by
      show (if p.1 = k then (p.1, v) else p).1 = p.1
      split <;> rfl
    rw [e]
    exact h
end
def putS (l : List (Str × V)) (k : Str) (v : V) : List (Str × V) := putK l k v
theorem put_sk (l : List (Str × V)) (k : Str) (v : V) : putK (sk l) (Sum.inr k) v = sk (putS l k v) := by
  unfold putS putK sk
  have e : ((l.map fun p : Str × V => ((Sum.inr p.1 : Key), p.2)).any fun kv => decide (kv.1 = Sum.inr k)) = l.any fun kv => decide (kv.1 = k) := by
    rw [List.any_map]
    congr 1
    funext p
    show decide ((Sum.inr p.1 : Key) = Sum.inr k) = _
    by_cases h : p.1 = k
    · rw [decide_eq_true h, decide_eq_true (by rw [h])]
    · rw [decide_eq_false h, decide_eq_false (fun z => h (Sum.inr.inj z))]
  rw [e]
  split
  · rw [List.map_map, List.map_map]
    refine List.map_congr_left fun p _ => ?_
    show (if (Sum.inr p.1 : Key) = Sum.inr k then ((Sum.inr p.1 : Key), v) else (Sum.inr p.1, p.2)) = ((Sum.inr (if p.1 = k then (p.1, v) else p).1 : Key), (if p.1 = k then (p.1, v) else p).2)
    by_cases h : p.1 = k
    · rw [if_pos h, if_pos (by rw [h])]
    · rw [if_neg h, if_neg (fun z => h (Sum.inr.inj z))]
  · rw [List.map_append]
    rfl
theorem look_not {l : List (Str × V)} {z : Str} (h : ∀ p ∈ l, p.1 ≠ z) : look l z = none := look_none fun hm => by
  obtain ⟨p, hp, e⟩ := List.mem_map.mp hm
  exact h p hp e
theorem part_false {l : List (Str × V)} {p : Str × V} (h : p ∈ l) (e : entB l p = false) : partB l = false := by
  unfold partB
  have : l.all (entB l) = false := by
    cases hq : l.all (entB l) with
    | false => rfl
    | true => rw [List.all_eq_true.mp hq p h] at e; cases e
  rw [this, Bool.and_false]
/-- the drawn partners -/
theorem part_true {ps : List (Str × Str)} (h : PartOk ps) (h0 : ps ≠ []) : partB (pl ps) = true := by
  have e0 : (pl ps).isEmpty = false := by
    cases ps with
    | nil => exact absurd rfl h0
    | cons p r => rfl
  unfold partB
  rw [e0, Bool.not_false, Bool.true_and, pl_keys, Bool.and_eq_true, List.all_eq_true, List.all_eq_true]
  refine ⟨fun z hz => ?_, fun p hp => ?_⟩
  · obtain ⟨q, hq, rfl⟩ := List.mem_map.mp hz
    exact (h.wd q hq).b
  · unfold pl at hp
    obtain ⟨q, hq, rfl⟩ := List.mem_map.mp hp
    have hl := look_some h.nd (h.sym q hq)
    show (match look (pl ps) q.2 with | some v => eqS v q.1 | none => false) = true
    rw [look_pl]
    have hl' : look ps q.2 = some q.1 := hl
    rw [hl']
    show (q.1 == q.1) = true
    exact beq_self_eq_true _
theorem pl_part {H : Hp} {A : Addr} {ps : List (Str × Str)} (h : PartOk ps) (h0 : ps ≠ []) (h8 : ps.length ≤ 8) (e : H A = some (.dK (pk ps))) : PartV H (.ref A) true := by
  rw [← part_true h h0]
  refine .dct (l := pl ps) (by rw [sk_pl]; exact e) (by unfold pl; rw [List.length_map]; omega) (fun p hp => ?_) (fun p hp => ?_)
  · unfold pl at hp
    obtain ⟨q, hq, rfl⟩ := List.mem_map.mp hp
    exact w_ok (h.wd q hq)
  · unfold pl at hp
    obtain ⟨q, hq, rfl⟩ := List.mem_map.mp hp
    exact ⟨_, .str q.2, w_ok (h.wd _ (h.sym q hq))⟩
/-- partners with one of them spoilt -/
theorem put_part {H : Hp} {A : Addr} {ps : List (Str × Str)} {k : Str} {v : V} {kd : Kd} (h : PartOk ps) (h8 : ps.length ≤ 8) (hk : sOk (.str k)) (hv : Is H v kd) (ok : kOk kd)
    (bad : ∀ z, v = .str z → z ≠ k ∧ z ∉ ps.map (·.1)) (e : H A = some (.dK (sk (putS (pl ps) k v)))) : PartV H (.ref A) false := by
  have hb : entB (putS (pl ps) k v) (k, v) = false := by
    cases v with
    | str z =>
      obtain ⟨b1, b2⟩ := bad z rfl
      show (match look (putS (pl ps) k (.str z)) z with | some v => eqS v k | none => false) = false
      rw [look_not (fun p hp => ?_)]
      rcases put_of hp with rfl | hp
      · exact fun q => b1 q.symm
      · intro q
        refine b2 ?_
        have := List.mem_map_of_mem (f := (·.1)) hp
        rw [pl_keys, q] at this
        exact this
    | _ => rfl
  rw [← part_false (put_has (pl ps) k v) hb]
  refine .dct e ?_ (fun p hp => ?_) (fun p hp => ?_)
  · have := length_putK (pl ps) k v
    have e2 : (pl ps).length = ps.length := List.length_map ..
    show (putK (pl ps) k v).length ≤ 100
    omega
  · rcases put_of hp with rfl | hp
    · exact hk
    · unfold pl at hp
      obtain ⟨q, hq, rfl⟩ := List.mem_map.mp hp
      exact w_ok (h.wd q hq)
  · rcases put_of hp with rfl | hp
    · exact ⟨kd, hv, ok⟩
    · unfold pl at hp
      obtain ⟨q, hq, rfl⟩ := List.mem_map.mp hp
      exact ⟨_, .str q.2, w_ok (h.wd _ (h.sym q hq))⟩
/-- entries told one by one, one of them wrong -/
theorem pick_bools {α : Type} {R : α → Bool → Prop} {l : List α} (h : ∀ p ∈ l, ∃ b, R p b) (bad : ∃ p ∈ l, R p false) : ∃ bs : List Bool, bs.length = l.length ∧ bs.all id = false ∧ ∀ (i : Nat) p b, l[i]? = some p → bs[i]? = some b → R p b := by
  classical
  let f : α → Bool := fun p => if R p false then false else true
  refine ⟨l.map f, List.length_map .., ?_, fun i p b hp hb => ?_⟩
  · obtain ⟨p, hp, r⟩ := bad
    cases ha : (l.map f).all id with
    | false => rfl
    | true =>
      have := List.all_eq_true.mp ha (f p) (List.mem_map_of_mem hp)
      have e : f p = false := if_pos r
      rw [e] at this
      cases this
  · rw [List.getElem?_map, hp] at hb
    have hb := Option.some.inj hb
    subst hb
    show R p (if R p false then false else true)
    split
    · assumption
    · next hn =>
      obtain ⟨b, r⟩ := h p (List.mem_of_getElem? hp)
      cases b with
      | false => exact absurd r hn
      | true => exact r
theorem blk_bad {P : Program} {w : World} {H : Hp} {l : List (Str × V)} {a : Addr} {kvs : List (Key × V)} (e : H a = some (.dK kvs)) (hn : (kvs.map (·.1)).Nodup) (hl : kvs.length ≤ 100) (h : ∀ p ∈ kvs, ∃ b, EntV H l (some p.1) p.2 b) (bad : ∃ p ∈ kvs, EntV H l (some p.1) p.2 false) : BlkV P w H l (.ref a) false := by
  obtain ⟨bs, h1, h2, h3⟩ := pick_bools (R := fun (p : Key × V) b => EntV H l (some p.1) p.2 b) h bad
  rw [← h2]
  exact .dct e hn hl h1 fun i k v b hk hb => h3 i (k, v) b hk hb
theorem blk_badN {P : Program} {w : World} {H : Hp} {l : List (Str × V)} {a : Addr} {kvs : List (Option Key × V)} (e : H a = some (nkO P w a kvs)) (hn : (kvs.map (·.1)).Nodup) (hl : kvs.length ≤ 100) (h : ∀ p ∈ kvs, ∃ b, EntV H l p.1 p.2 b) (bad : ∃ p ∈ kvs, EntV H l p.1 p.2 false) : BlkV P w H l (.ref a) false := by
  obtain ⟨bs, h1, h2, h3⟩ := pick_bools (R := fun (p : Option Key × V) b => EntV H l p.1 p.2 b) h bad
  rw [← h2]
  exact .nk e hn hl h1 fun i k v b hk hb => h3 i (k, v) b hk hb
/-- the drawn blocks' entries -/
theorem ent_blk {H : Hp} {l : List (Str × V)} {ps : List (Str × Str)} {bs : List (Str × Addr)} (h : BlkOk H ps bs) (hP : PartOk ps) {p : Key × V} (hp : p ∈ bk bs) : ∃ b, EntV H l (some p.1) p.2 b := by
  unfold bk at hp
  obtain ⟨q, hq, rfl⟩ := List.mem_map.mp hp
  obtain ⟨es, h1, h2, h3, h4⟩ := h.tup q hq
  refine ⟨_, ⟨⟨_, .tup h1, fun x hx => ?_, fun xs e => ?_, rfl⟩, fun z e => ?_⟩⟩
  · obtain ⟨y, hy, rfl⟩ := List.mem_map.mp hx
    obtain ⟨r, hr, rfl⟩ := List.mem_map.mp (h4 y hy)
    exact w_ok (hP.wd r hr)
  · have e := Kd.tup.inj e
    rw [← e, List.length_map]
    omega
  · have e := Sum.inr.inj (Option.some.inj e)
    rw [← e]
    exact Nat.le_of_lt (small1000 (Nat.le_trans (h.wd q hq).hi (by decide)))
theorem bk_nd {bs : List (Str × Addr)} (h : (bs.map (·.1)).Nodup) : ((bk bs).map (·.1)).Nodup := by
  have e : (bk bs).map (·.1) = (bs.map (·.1)).map Sum.inr := by
    unfold bk
    rw [List.map_map, List.map_map]
    rfl
  rw [e]
  exact h.map _ fun a b n z => n (Sum.inr.inj z)
/-- blocks with one more entry, a wrong one -/
theorem put_blk {P : Program} {w : World} {H : Hp} {l : List (Str × V)} {ps : List (Str × Str)} {bs : List (Str × Addr)} {a : Addr} {k : Key} {v : V} (h : BlkOk H ps bs) (hP : PartOk ps) (h8 : bs.length ≤ 8) (e : H a = some (.dK (putK (bk bs) k v))) (bad : EntV H l (some k) v false) :
    BlkV P w H l (.ref a) false := by
  refine blk_bad e (put_nd k v (bk_nd h.nd)) ?_ (fun p hp => ?_) ⟨(k, v), put_has _ _ _, bad⟩
  · have := length_putK (bk bs) k v
    have e2 : (bk bs).length = bs.length := List.length_map ..
    omega
  · rcases put_of hp with rfl | hp
    · exact ⟨_, bad⟩
    · exact ent_blk h hP hp
theorem put_blkN {P : Program} {w : World} {H : Hp} {l : List (Str × V)} {ps : List (Str × Str)} {bs : List (Str × Addr)} {a : Addr} {v : V} (h : BlkOk H ps bs) (hP : PartOk ps) (h8 : bs.length ≤ 8) (e : H a = some (nkO P w a (optK (bk bs) ++ [(none, v)]))) (bad : EntV H l none v false) :
    BlkV P w H l (.ref a) false := by
  refine blk_badN e ?_ ?_ (fun p hp => ?_) ⟨(none, v), List.mem_append_right _ (List.mem_singleton.mpr rfl), bad⟩
  · rw [List.map_append, List.nodup_append]
    have e1 : (optK (bk bs)).map (·.1) = ((bk bs).map (·.1)).map some := by
      unfold optK
      rw [List.map_map, List.map_map]
      rfl
    refine ⟨?_, by simp, fun x hx y hy => ?_⟩
    · rw [e1]
      exact (bk_nd h.nd).map _ fun a b n z => n (Option.some.inj z)
    · rw [e1] at hx
      obtain ⟨k, _, rfl⟩ := List.mem_map.mp hx
      have : y = none := by simpa using hy
      rw [this]
      exact fun z => nomatch z
  · have e2 : (optK (bk bs)).length = bs.length := by unfold optK bk; rw [List.length_map, List.length_map]
    rw [List.length_append, e2, List.length_singleton]
    omega
  · rcases List.mem_append.mp hp with hp | hp
    · unfold optK at hp
      obtain ⟨q, hq, rfl⟩ := List.mem_map.mp hp
      exact ent_blk h hP hq
    · have := List.mem_singleton.mp hp
      subst this
      exact ⟨_, bad⟩
theorem ent_bad {H : Hp} {l : List (Str × V)} {k : Option Key} {v : V} {kd : Kd} (hv : Is H v kd) (ok : kOk kd) (h100 : ∀ xs, kd = .tup xs → xs.length ≤ 100) (sz : ∀ z, k = some (.inr z) → z.length ≤ sizeLine) (bad : wordK (keyK k) = false ∨ endsB l kd = false) : EntV H l k v false := by
  refine ⟨⟨kd, hv, ok, h100, ?_⟩, sz⟩
  unfold bEnt
  rcases bad with b | b <;> rw [b]
  · rw [Bool.false_and]
  · rw [Bool.and_false]
end K1

set_option Elab.async false
set_option linter.all false
set_option maxRecDepth 100000
set_option maxHeartbeats 1000000
namespace K1
open PySem PySem.Spec PyProof.Rows L2
abbrev sSpoilt : Stmt := topS 29
theorem scSpoilt : FnScope ["draw", "partners", "blocks", "kind", "name", "found", "value", "more", "other", "word"] ["draw", "partners", "blocks"] (defScope sSpoilt) := ⟨rfl, rfl, rfl, by decide +kernel, rfl, by decide +kernel, by decide +kernel⟩
theorem sz2 {n : Nat} (h : n ≤ 100) : n ≤ sizeLine := Nat.le_of_lt (small1000 (Nat.le_trans h (by decide)))
/-- a heap without one address -/
def del (H : Hp) (F : Addr) : Hp := fun b => if b = F then none else H b
theorem del_ne {H : Hp} {F c : Addr} (n : c ≠ F) : del H F c = H c := if_neg n
theorem del_upd {H : Hp} {F : Addr} {o : HO} : del (upd H F o) F = del H F := funext fun b => by
  unfold del
  by_cases h : b = F
  · rw [if_pos h, if_pos h]
  · rw [if_neg h, if_neg h, upd_ne h]
theorem del_free {H : Hp} {F : Addr} (n : H F = none) : del H F = H := funext fun b => by
  unfold del
  by_cases h : b = F
  · rw [if_pos h, h, n]
  · rw [if_neg h]
theorem del_kp {H H' : Hp} {F : Addr} (k : Kp F H H') : Same (del H F) (del H' F) := fun b o e => by
  unfold del at e ⊢
  by_cases h : b = F
  · rw [if_pos h] at e; cases e
  · rw [if_neg h] at e ⊢; exact k b o h e
/-- the list of pairs, so far -/
structure Fd (P : Program) (w : World) (H1 : Hp) (F : Addr) (n : Nat) (H : Hp) : Prop where
  same : Same H1 H
  fr : H1 F = none
  ex : ∃ xs : List Addr, H F = some (.lst (xs.map V.ref)) ∧ xs.length ≤ n ∧ ∀ p ∈ xs, p ≠ F ∧ ∃ x y, H p = some (.lst [x, y]) ∧ Bad P w (del H F) x y
theorem Fd.kp {P : Program} {w : World} {H1 : Hp} {F : Addr} {n : Nat} {H H' : Hp} (h : Fd P w H1 F n H) (e : Same H H') : Fd P w H1 F n H' := by
  obtain ⟨xs, h1, h2, h3⟩ := h.ex
  refine ⟨h.same.trans e, h.fr, xs, e _ _ h1, h2, fun p hp => ?_⟩
  obtain ⟨n, x, y, a, b⟩ := h3 p hp
  exact ⟨n, x, y, e _ _ a, b.same (del_kp (Kp.of e))⟩
theorem Fd.dl {P : Program} {w : World} {H1 : Hp} {F : Addr} {n : Nat} {H : Hp} (h : Fd P w H1 F n H) : Same H1 (del H F) := fun b o e => by
  have nb : b ≠ F := ne_of_none e h.fr
  rw [del_ne nb]
  exact h.same b o e
theorem Fd.push {P : Program} {w : World} {H1 : Hp} {F : Addr} {n : Nat} {H : Hp} (h : Fd P w H1 F n H) : ∃ xs : List V, H F = some (.lst xs) ∧ xs.length ≤ n ∧
    ∀ (ys : List Addr), (∀ p ∈ ys, p ≠ F ∧ ∃ x y, H p = some (.lst [x, y]) ∧ Bad P w (del H F) x y) → Fd P w H1 F (n + ys.length) (upd H F (.lst (xs ++ ys.map V.ref))) := by
  obtain ⟨xs, h1, h2, h3⟩ := h.ex
  refine ⟨xs.map V.ref, h1, by rw [List.length_map]; exact h2, fun ys hy => ⟨fun b o e => ?_, h.fr, xs ++ ys, by rw [upd_same, List.map_append], by rw [List.length_append]; omega, fun p hp => ?_⟩⟩
  · rw [upd_ne (ne_of_none e h.fr)]
    exact h.same b o e
  · rw [del_upd]
    have hq : p ≠ F ∧ ∃ x y, H p = some (.lst [x, y]) ∧ Bad P w (del H F) x y := by
      rcases List.mem_append.mp hp with hp | hp
      · exact h3 p hp
      · exact hy p hp
    obtain ⟨n, x, y, a, b⟩ := hq
    exact ⟨n, x, y, by rw [upd_ne n]; exact a, b⟩
theorem Fd.add {P : Program} {w : World} {H1 : Hp} {F : Addr} {n : Nat} {H : Hp} (h : Fd P w H1 F n H) (hn : n ≤ 100) {p : Addr} {x y : V} (np : H p = none) (b : Bad P w (del H F) x y) : ∃ xs : List V, (upd H p (.lst [x, y])) F = some (.lst xs) ∧ xs.length < sizeLine ∧
    Fd P w H1 F (n + 1) (upd (upd H p (.lst [x, y])) F (.lst (xs ++ [.ref p]))) ∧ Kp F H (upd (upd H p (.lst [x, y])) F (.lst (xs ++ [.ref p]))) := by
  obtain ⟨xs, e, l, f⟩ := (h.kp (same_upd (o := .lst [x, y]) np)).push
  obtain ⟨zs, e0, _⟩ := h.ex
  have nF : p ≠ F := (ne_of_none e0 np).symm
  refine ⟨xs, e, small1000 (by omega), f [p] (fun r hr => ?_), fun c o n e => ?_⟩
  · have := List.mem_singleton.mp hr
    subst this
    exact ⟨nF, x, y, upd_same, b.same (del_kp (Kp.of (same_upd np)))⟩
  · rw [upd_ne n]
    exact same_upd np c o e
theorem Fd.at {P : Program} {w : World} {H1 : Hp} {F : Addr} {n : Nat} {H : Hp} (h : Fd P w H1 F n H) : ∃ xs, H F = some (.lst xs) := by
  obtain ⟨xs, e, _⟩ := h.ex
  exact ⟨_, e⟩
theorem sOk_q7 : sOk (.str "qqqqqqq") := ⟨sz2 (by decide +kernel), by decide +kernel⟩
theorem sOk_q8 : sOk (.str "qqqqqqqq") := ⟨sz2 (by decide +kernel), by decide +kernel⟩
theorem vals3 : ∀ x ∈ [V.str "", V.str "A", V.str "abcdefghi", V.str "a b", V.int 1, V.non], (∃ kk : Key, x = kV kk ∧ wordK (keyK (some kk)) = false ∧ ∀ z, some kk = some (.inr z) → z.length ≤ sizeLine) ∨ x = .non := by
  intro x hx
  have st : ∀ y : Str, y.length ≤ 100 → wordB y = false → ∃ kk : Key, V.str y = kV kk ∧ wordK (keyK (some kk)) = false ∧ ∀ z, some kk = some (.inr z) → z.length ≤ sizeLine := fun y h1 h3 => ⟨.inr y, rfl, h3, fun z e => by rw [← Sum.inr.inj (Option.some.inj e)]; exact sz2 h1⟩
  simp only [List.mem_cons, List.not_mem_nil, or_false] at hx
  rcases hx with rfl | rfl | rfl | rfl | rfl | rfl
  · exact .inl (st _ (by decide +kernel) (by decide +kernel))
  · exact .inl (st _ (by decide +kernel) (by decide +kernel))
  · exact .inl (st _ (by decide +kernel) (by decide +kernel))
  · exact .inl (st _ (by decide +kernel) (by decide +kernel))
  · exact .inl ⟨.inl 1, rfl, rfl, fun z e => nomatch e⟩
  · exact .inr rfl
theorem sOk_z : sOk (.str "zzzzzzzzz") := ⟨sz2 (by decide +kernel), by decide +kernel⟩
theorem w_ne {k z : Str} (h : IsW k) (hz : wordB z = false) : k ≠ z := fun e => by
  have := h.b
  rw [e, hz] at this
  cases this
theorem ne_ {P : Prop} {z : Str} {v : V} (h : ∀ y, v ≠ V.str y) : v = .str z → P := fun e => absurd e (h z)
theorem vals1 {H : Hp} {t0 : Addr} {k : Str} (e : H t0 = some (.tup [.str k])) (hk : sOk (.str k)) : ∀ x ∈ [V.non, V.str "", V.str "A", V.str "ab1", V.str "abcdefghi", V.int 3, V.bl true, V.ref t0], ∃ kd, Is H x kd ∧ kOk kd ∧ ∀ z, x = .str z → wordB z = false := by
  intro x hx
  have st : ∀ y : Str, y.length ≤ 100 → PySem.PyData.strOk y = true → wordB y = false → ∃ kd, Is H (.str y) kd ∧ kOk kd ∧ ∀ z, V.str y = .str z → wordB z = false := fun y h1 h2 h3 => ⟨_, .str y, ⟨sz2 h1, h2⟩, fun z e => by rw [← V.str.inj e]; exact h3⟩
  simp only [List.mem_cons, List.not_mem_nil, or_false] at hx
  rcases hx with rfl | rfl | rfl | rfl | rfl | rfl | rfl | rfl
  · exact ⟨_, .non, True.intro, fun z e => nomatch e⟩
  · exact st _ (by decide +kernel) (by decide +kernel) (by decide +kernel)
  · exact st _ (by decide +kernel) (by decide +kernel) (by decide +kernel)
  · exact st _ (by decide +kernel) (by decide +kernel) (by decide +kernel)
  · exact st _ (by decide +kernel) (by decide +kernel) (by decide +kernel)
  · exact ⟨_, .int 3, True.intro, fun z e => nomatch e⟩
  · exact ⟨_, .bl true, True.intro, fun z e => nomatch e⟩
  · exact ⟨_, .tup e, fun x hx => by rw [List.mem_singleton.mp hx]; exact hk, fun z e => nomatch e⟩
theorem end_no {l : List (Str × V)} {xs : List V} {x : V} (h : x ∈ xs) (e : endB l x = false) : endsB l (.tup xs) = false := by
  show (decide (1 ≤ xs.length) && decide (xs.length ≤ 4) && xs.all (endB l)) = false
  have : xs.all (endB l) = false := by
    cases ha : xs.all (endB l) with
    | false => rfl
    | true => rw [List.all_eq_true.mp ha x h] at e; cases e
  rw [this, Bool.and_false]
theorem endB_no {l : List (Str × V)} {z : Str} (h : z ∉ l.map (·.1)) : endB l (.str z) = false := by
  show (look l z).isSome = false
  rw [look_none h]
  rfl
theorem vals2 {H : Hp} {l : List (Str × V)} {t1 t2 u3 t4 t5 t6 : Addr} {k : Str} (e1 : H t1 = some (.tup [])) (e2 : H t2 = some (.tup [.str k, .str k, .str k, .str k, .str k])) (e3 : H u3 = some (.lst [.str k])) (e4 : H t4 = some (.tup [.str k, .str "qqqqqqqq"])) (e5 : H t5 = some (.tup [.str k, .int 1])) (e6 : H t6 = some (.tup [.str ""]))
    (hk : sOk (.str k)) (n1 : ("qqqqqqqq" : Str) ∉ l.map (·.1)) (n2 : ("" : Str) ∉ l.map (·.1)) : ∀ x ∈ [V.non, V.ref t1, V.ref t2, V.ref u3, V.str k, V.ref t4, V.ref t5, V.ref t6], ∃ kd, Is H x kd ∧ kOk kd ∧ (∀ xs, kd = .tup xs → xs.length ≤ 100) ∧ endsB l kd = false := by
  intro x hx
  have len : ∀ {ys : List V}, ys.length ≤ 100 → ∀ xs, Kd.tup ys = .tup xs → xs.length ≤ 100 := fun h xs e => by rw [← Kd.tup.inj e]; exact h
  simp only [List.mem_cons, List.not_mem_nil, or_false] at hx
  rcases hx with rfl | rfl | rfl | rfl | rfl | rfl | rfl | rfl
  · exact ⟨_, .non, True.intro, (fun z e => nomatch e), rfl⟩
  · exact ⟨_, .tup e1, (fun x hx => nomatch hx), len (ys := []) (Nat.zero_le _), rfl⟩
  · refine ⟨_, .tup e2, fun x hx => ?_, len (by show 5 ≤ 100; decide), rfl⟩
    simp only [List.mem_cons, List.not_mem_nil, or_false, or_self] at hx
    rw [hx]; exact hk
  · exact ⟨_, .lst e3, fun x hx => by rw [List.mem_singleton.mp hx]; exact hk, (fun z e => nomatch e), rfl⟩
  · exact ⟨_, .str k, hk, (fun z e => nomatch e), rfl⟩
  · refine ⟨_, .tup e4, fun x hx => ?_, len (by show 2 ≤ 100; decide), end_no (x := .str "qqqqqqqq") (by simp) (endB_no n1)⟩
    simp only [List.mem_cons, List.not_mem_nil, or_false] at hx
    rcases hx with rfl | rfl
    · exact hk
    · exact ⟨sz2 (by decide +kernel), by decide +kernel⟩
  · refine ⟨_, .tup e5, fun x hx => ?_, len (by show 2 ≤ 100; decide), end_no (x := .int 1) (by simp) rfl⟩
    simp only [List.mem_cons, List.not_mem_nil, or_false] at hx
    rcases hx with rfl | rfl
    · exact hk
    · exact True.intro
  · exact ⟨_, .tup e6, fun x hx => by rw [List.mem_singleton.mp hx]; exact ⟨sz2 (by decide +kernel), by decide +kernel⟩, len (by show 1 ≤ 100; decide), end_no (x := .str "") (by simp) (endB_no n2)⟩
theorem merge_sk : ∀ (l acc : List (Str × V)), ((acc ++ l).map (·.1)).Nodup → mergeK (sk acc) (sk l) = sk (acc ++ l)
  | [], acc, _ => by rw [List.append_nil]; rfl
  | p :: r, acc, h => by
    have h1 : p.1 ∉ acc.map (·.1) := fun hm => by
      rw [List.map_append, List.nodup_append] at h
      exact h.2.2 _ hm p.1 (by simp) rfl
    have e : putK (sk acc) (Sum.inr p.1) p.2 = sk (acc ++ [p]) := by
      rw [putK_new _ (by rw [sk_val, look_none h1])]
      unfold sk
      rw [List.map_append]
      rfl
    have e2 : acc ++ p :: r = (acc ++ [p]) ++ r := by simp
    rw [e2] at h ⊢
    rw [← merge_sk r (acc ++ [p]) h, ← e]
    rfl
theorem part_lit {H : Hp} {a : Addr} {l : List (Str × V)} {p : Str × V} (e : H a = some (.dK (mergeK [] (sk l)))) (hn : (l.map (·.1)).Nodup) (h1 : l.length ≤ 100) (h2 : ∀ p ∈ l, sOk (.str p.1)) (h3 : ∀ p ∈ l, ∃ z, p.2 = .str z ∧ sOk (.str z)) (hp : p ∈ l) (he : entB l p = false) : PartV H (.ref a) false := by
  rw [← part_false hp he]
  have e2 : mergeK [] (sk l) = sk l := merge_sk l [] hn
  rw [e2] at e
  refine .dct e h1 h2 fun p hp => ?_
  obtain ⟨z, e, o⟩ := h3 p hp
  rw [e]
  exact ⟨_, .str z, o⟩
theorem rst : ∀ z ∈ [("r" : Str), "s", "t"], sOk (.str z) := by
  intro z hz
  simp only [List.mem_cons, List.not_mem_nil, or_false] at hz
  rcases hz with rfl | rfl | rfl <;> exact ⟨sz2 (by decide +kernel), by decide +kernel⟩
theorem rs1 {H : Hp} {a : Addr} (e : H a = some (.dK (mergeK [] [((Sum.inr "r" : Key), V.str "s"), (Sum.inr "s", V.str "s")]))) : PartV H (.ref a) false := by
  refine part_lit (l := [("r", .str "s"), ("s", .str "s")]) (p := ("r", .str "s")) e (by decide +kernel) (by show 2 ≤ 100; decide) (fun p hp => ?_) (fun p hp => ?_) (by simp) (by decide +kernel)
  · simp only [List.mem_cons, List.not_mem_nil, or_false] at hp
    rcases hp with rfl | rfl <;> exact rst _ (by simp)
  · simp only [List.mem_cons, List.not_mem_nil, or_false] at hp
    rcases hp with rfl | rfl <;> exact ⟨_, rfl, rst _ (by simp)⟩
theorem rs2 {H : Hp} {a : Addr} (e : H a = some (.dK (mergeK [] [((Sum.inr "r" : Key), V.str "s"), (Sum.inr "s", V.str "t"), (Sum.inr "t", V.str "r")]))) : PartV H (.ref a) false := by
  refine part_lit (l := [("r", .str "s"), ("s", .str "t"), ("t", .str "r")]) (p := ("r", .str "s")) e (by decide +kernel) (by show 3 ≤ 100; decide) (fun p hp => ?_) (fun p hp => ?_) (by simp) (by decide +kernel)
  · simp only [List.mem_cons, List.not_mem_nil, or_false] at hp
    rcases hp with rfl | rfl | rfl <;> exact rst _ (by simp)
  · simp only [List.mem_cons, List.not_mem_nil, or_false] at hp
    rcases hp with rfl | rfl | rfl <;> exact ⟨_, rfl, rst _ (by simp)⟩
section
variable {P : Program} {w : World} {K : PySem.W.Frag} {mg : Str → Option Value} {base : Heap}
def spSpoilt (P : Program) (w : World) : Sp := fun vs H Q _ => ∃ (d sc T A B : Addr) (ps : List (Str × Str)) (bs : List (Str × Addr)), vs = [.ref d, .ref A, .ref B] ∧ DrawAt H d sc ∧ ShD H T A B ps bs ∧ T ≠ d ∧ ("qqqqqqqq" : Str) ∉ ps.map (·.1) ∧
  ∀ (F : Addr) (xs : List Addr) (H' : Hp), H F = none → H' F = some (.lst (xs.map V.ref)) → xs.length ≤ 100 → (∀ p ∈ xs, ∃ x y, H' p = some (.lst [x, y]) ∧ Bad P w H' x y) → DrawAt H' d sc → Kp d H H' → Q (.ref F) H'
theorem ok_spoilt {f fP : Addr} {fd fdP : FuncData} (F : Fun K "_law_spoilt" "_law_spoilt" sSpoilt f fd) (dP : D K mg "_law_pick" sPick ["draw", "things"] fP fdP) (GP : FnOk P w K mg base CX0 4 fP fdP ["draw", "things"] (spPick K)) (Bt : Bi mg) :
    FnOk P w K mg base CX0 5 f fd ["draw", "partners", "blocks"] (spSpoilt P w) := by
  refine F.ok scSpoilt (fun vs H Q E h => ?_) (fun cdv A outer s H vs Q E hr h => ?_)
  · obtain ⟨d, sc, T, A, B, ps, bs, rfl, _⟩ := h
    rfl
  · obtain ⟨d, sc, T, A, B, ps, bs, rfl, hD, hS, nTd, nq, q⟩ := h
    have hu := hu_of hr
    refine ⟨_, pss_cons (ps_par (i := 3) (j := 4) rfl scSpoilt.nd rfl rfl (by decide) rfl rfl (pa_cons (pe_call GP hr (by rfl) dP.m dP.F.kp dP.b .nil pass0 (pa_cons (pv 0) (pa_cons (pe_callB (call_sortedD rfl) (by rfl) Bt.sorted boot_sorted (pa_cons (pv 1) pa_nil)) pa_nil)))
        (pa_cons (pe_ix ix_list (pe_callB (call_sortedD rfl) (by rfl) Bt.sorted boot_sorted (pa_cons (pv 2) pa_nil)) pe_int (fun _ _ => rfl)) pa_nil)) (by rfl))
      (pss_cons (ps_set (i := 5) scSpoilt.nd rfl (.inl rfl) (pe_lst (pa_cons (pe_lst (pa_cons pe_non (pa_cons (pv 2) pa_nil))) (pa_cons (pe_lst (pa_cons (pv 1) (pa_cons pe_non pa_nil))) (pa_cons (pe_lst (pa_cons pe_dnewK (pa_cons pe_dnewK pa_nil)))
          (pa_cons (pe_lst (pa_cons (pe_lst (pa_cons (pv 3) pa_nil)) (pa_cons (pv 2) pa_nil))) (pa_cons (pe_lst (pa_cons (pv 1) (pa_cons (pe_lst (pa_cons (pv 4) pa_nil)) pa_nil)))
          (pa_cons (pe_lst (pa_cons (pe_disp (pps_cons (pv 3) pe_str pps_nil) rfl rfl (by decide) (by decide)) (pa_cons pe_dnewK pa_nil))) pa_nil))))))))
      (pss_cons (ps_for PassesOwn.never rfl (pi_tup (pe_tup (pa_cons pe_non (pa_cons pe_str (pa_cons pe_str (pa_cons pe_str (pa_cons pe_str (pa_cons pe_int (pa_cons pe_bl (pa_cons (pe_tup (pa_cons (pv 3) pa_nil)) pa_nil)))))))))) (pg_name (i := 6) scSpoilt.nd rfl (.inl rfl))
        (pss_cons (ps_set (i := 7) scSpoilt.nd rfl (.inl rfl) (pe_callTy call_dictD (by rfl) Bt.dict boot_dict (pa_cons (pv 1) pa_nil)))
        (pss_cons (ps_dput hu (pv 7) (pv 3) (pv 6) rfl)
        (pss_one (ps_expr (pe_bm PySem.F.plainAttrs_list PySem.F.slot_list_append PySem.F.type_list_append mt_append (pv 5) (pa_cons (pe_lst (pa_cons (pv 7) (pa_cons (pv 2) pa_nil))) pa_nil)))))))
      (pss_cons (ps_expr (pe_bm PySem.F.plainAttrs_list PySem.F.slot_list_extend PySem.F.type_list_extend mt_extend (pv 5) (pa_cons (pe_lst
          (pa_cons (pe_lst (pa_cons (pe_disp (pps_cons pe_str pe_str (pps_cons pe_str pe_str pps_nil)) rfl rfl (by decide) (by decide)) (pa_cons pe_dnewK pa_nil)))
          (pa_cons (pe_lst (pa_cons (pe_disp (pps_cons pe_str pe_str (pps_cons pe_str pe_str (pps_cons pe_str pe_str pps_nil))) rfl rfl (by decide) (by decide)) (pa_cons pe_dnewK pa_nil))) pa_nil))) pa_nil)))
      (pss_cons (ps_set (i := 8) scSpoilt.nd rfl (.inl rfl) (pe_callTy call_dictD (by rfl) Bt.dict boot_dict (pa_cons (pv 1) pa_nil)))
      (pss_cons (ps_dput hu (pv 8) pe_str pe_str rfl)
      (pss_cons (ps_expr (pe_bm PySem.F.plainAttrs_list PySem.F.slot_list_append PySem.F.type_list_append mt_append (pv 5) (pa_cons (pe_lst (pa_cons (pv 8) (pa_cons (pv 2) pa_nil))) pa_nil)))
      (pss_cons (ps_for PassesOwn.never rfl (pi_tup (pe_tup (pa_cons pe_non (pa_cons (pe_tup pa_nil) (pa_cons (pe_op op_repT (pe_tup (pa_cons (pv 3) pa_nil)) pe_int) (pa_cons (pe_lst (pa_cons (pv 3) pa_nil)) (pa_cons (pv 3)
          (pa_cons (pe_tup (pa_cons (pv 3) (pa_cons pe_str pa_nil))) (pa_cons (pe_tup (pa_cons (pv 3) (pa_cons pe_int pa_nil))) (pa_cons (pe_tup (pa_cons pe_str pa_nil)) pa_nil)))))))))) (pg_name (i := 6) scSpoilt.nd rfl (.inl rfl))
        (pss_cons (ps_set (i := 7) scSpoilt.nd rfl (.inl rfl) (pe_callTy call_dictD (by rfl) Bt.dict boot_dict (pa_cons (pv 2) pa_nil)))
        (pss_cons (ps_dput hu (pv 7) (pv 4) (pv 6) rfl)
        (pss_one (ps_expr (pe_bm PySem.F.plainAttrs_list PySem.F.slot_list_append PySem.F.type_list_append mt_append (pv 5) (pa_cons (pe_lst (pa_cons (pv 1) (pa_cons (pv 7) pa_nil))) pa_nil)))))))
      (pss_cons (ps_for PassesOwn.never rfl (pi_tup (pe_tup (pa_cons pe_str (pa_cons pe_str (pa_cons pe_str (pa_cons pe_str (pa_cons pe_int (pa_cons pe_non pa_nil)))))))) (pg_name (i := 9) scSpoilt.nd rfl (.inl rfl))
        (pss_cons (ps_set (i := 7) scSpoilt.nd rfl (.inl rfl) (pe_callTy call_dictD (by rfl) Bt.dict boot_dict (pa_cons (pv 2) pa_nil)))
        (pss_cons (ps_asg (pe_tup (pa_cons (pv 3) pa_nil)) (pg_sub (pv 7) (pv 9) (set_n hu)))
        (pss_one (ps_expr (pe_bm PySem.F.plainAttrs_list PySem.F.slot_list_append PySem.F.type_list_append mt_append (pv 5) (pa_cons (pe_lst (pa_cons (pv 1) (pa_cons (pv 7) pa_nil))) pa_nil)))))))
      (pss_one (ps_ret (pv 5))))))))))), ?_⟩
    have hpl : (pl ps).length = ps.length := List.length_map ..
    have hbl : (bk bs).length = bs.length := List.length_map ..
    -- kind, name
    refine ⟨_, rfl, _, rfl, A, pk ps, ps.map (·.1), rfl, .inl hS.a, by rw [← sk_pl, sk_keys, pl_keys], by rw [List.length_map]; have := hS.p8; omega, fun zs S0 perm srt nS0 => ?_⟩
    have s0 : Same H (upd H S0 (.lst (zs.map V.str))) := same_upd nS0
    have e0 : (upd H S0 (.lst (zs.map V.str))) S0 = some (.lst (zs.map V.str)) := upd_same
    generalize (upd H S0 (.lst (zs.map V.str))) = Ha at s0 e0
    have hz : zs ≠ [] := fun e => hS.p0 (by
      have := perm.length_eq
      rw [e, List.length_map] at this
      exact List.eq_nil_of_length_eq_zero this.symm)
    have Da := hD.same s0
    have nS0d : S0 ≠ d := hD.nd nS0
    refine ⟨d, sc, S0, _, rfl, Da, SqL.of e0, nS0d, by rw [List.length_map]; exact List.length_pos_iff.mpr hz, fun i v Hb hv Db kb => ?_⟩
    obtain ⟨k, hk, rfl⟩ : ∃ k, k ∈ ps.map (·.1) ∧ v = .str k := by
      rw [List.getElem?_map] at hv
      cases hj : zs[i]? with
      | none => rw [hj] at hv; cases hv
      | some z =>
        rw [hj] at hv
        exact ⟨z, perm.mem_iff.mp (List.mem_of_getElem? hj), (Option.some.inj hv).symm⟩
    have hSb := (hS.same s0).kp Da nTd kb
    refine ⟨_, rfl, B, bk bs, bs.map (·.1), rfl, .inl hSb.b, by unfold bk; rw [List.map_map, List.map_map]; rfl, by rw [List.length_map]; have := hS.b8; omega, fun ys S1 perm2 srt2 nS1 => ?_⟩
    have sc1 : Same Hb (upd Hb S1 (.lst (ys.map V.str))) := same_upd nS1
    have ec1 : (upd Hb S1 (.lst (ys.map V.str))) S1 = some (.lst (ys.map V.str)) := upd_same
    generalize (upd Hb S1 (.lst (ys.map V.str))) = H1 at sc1 ec1
    obtain ⟨nm, hnm, ey⟩ : ∃ nm, nm ∈ bs.map (·.1) ∧ ys[0]? = some nm := by
      cases ys with
      | nil =>
        have := perm2.length_eq
        rw [List.length_map] at this
        exact absurd (List.eq_nil_of_length_eq_zero this.symm) hS.b0
      | cons y r => exact ⟨y, perm2.mem_iff.mp List.mem_cons_self, rfl⟩
    refine ⟨S1, _, 0, _, rfl, rfl, SqL.of ec1, at_of (j := 0) rfl (by rw [List.getElem?_map, ey]; rfl), _, _, rfl, ?_⟩
    have hS1 := hSb.same sc1
    have D1 := Db.same sc1
    have kp1 : Kp d H H1 := ((Kp.of s0).trans kb).trans (Kp.of sc1)
    have kW : IsW k := by
      obtain ⟨p, hp, rfl⟩ := List.mem_map.mp hk
      exact hS.P.wd p hp
    have nW : IsW nm := by
      obtain ⟨p, hp, rfl⟩ := List.mem_map.mp hnm
      exact hS.O.wd p hp
    clear hz Da Db e0 s0 ec1 hSb sc1 kb perm perm2 srt srt2 ey nS1 nS0d nS0 hv
    -- found
    refine ⟨_, rfl, sz2 (n := 2) (by decide), fun p1 n1 => ?_⟩
    have s2 : Same H1 (upd H1 p1 (HO.lst [V.non, V.ref B])) := same_upd n1
    have e2 : (upd H1 p1 (HO.lst [V.non, V.ref B])) p1 = some (HO.lst [V.non, V.ref B]) := upd_same
    generalize (upd H1 p1 (HO.lst [V.non, V.ref B])) = H2 at s2 e2 ⊢
    refine ⟨_, rfl, sz2 (n := 2) (by decide), fun p2 n2 => ?_⟩
    have s3 : Same H2 (upd H2 p2 (HO.lst [V.ref A, V.non])) := same_upd n2
    have e3 : (upd H2 p2 (HO.lst [V.ref A, V.non])) p2 = some (HO.lst [V.ref A, V.non]) := upd_same
    generalize (upd H2 p2 (HO.lst [V.ref A, V.non])) = H3 at s3 e3 ⊢
    intro d1 m1
    have s4 : Same H3 (upd H3 d1 (HO.dK [])) := same_upd m1
    have e4 : (upd H3 d1 (HO.dK [])) d1 = some (HO.dK []) := upd_same
    generalize (upd H3 d1 (HO.dK [])) = H4 at s4 e4 ⊢
    intro d2 m2
    have s5 : Same H4 (upd H4 d2 (HO.dK [])) := same_upd m2
    have e5 : (upd H4 d2 (HO.dK [])) d2 = some (HO.dK []) := upd_same
    generalize (upd H4 d2 (HO.dK [])) = H5 at s5 e5 ⊢
    refine ⟨sz2 (n := 2) (by decide), fun p3 n3 => ?_⟩
    have s6 : Same H5 (upd H5 p3 (HO.lst [V.ref d1, V.ref d2])) := same_upd n3
    have e6 : (upd H5 p3 (HO.lst [V.ref d1, V.ref d2])) p3 = some (HO.lst [V.ref d1, V.ref d2]) := upd_same
    generalize (upd H5 p3 (HO.lst [V.ref d1, V.ref d2])) = H6 at s6 e6 ⊢
    refine ⟨_, rfl, sz2 (n := 1) (by decide), fun q1 m3 => ?_⟩
    have s7 : Same H6 (upd H6 q1 (HO.lst [V.str k])) := same_upd m3
    have e7 : (upd H6 q1 (HO.lst [V.str k])) q1 = some (HO.lst [V.str k]) := upd_same
    generalize (upd H6 q1 (HO.lst [V.str k])) = H7 at s7 e7 ⊢
    refine ⟨_, rfl, sz2 (n := 2) (by decide), fun p4 n4 => ?_⟩
    have s8 : Same H7 (upd H7 p4 (HO.lst [V.ref q1, V.ref B])) := same_upd n4
    have e8 : (upd H7 p4 (HO.lst [V.ref q1, V.ref B])) p4 = some (HO.lst [V.ref q1, V.ref B]) := upd_same
    generalize (upd H7 p4 (HO.lst [V.ref q1, V.ref B])) = H8 at s8 e8 ⊢
    refine ⟨_, rfl, _, rfl, sz2 (n := 1) (by decide), fun q2 m4 => ?_⟩
    have s9 : Same H8 (upd H8 q2 (HO.lst [V.str nm])) := same_upd m4
    have e9 : (upd H8 q2 (HO.lst [V.str nm])) q2 = some (HO.lst [V.str nm]) := upd_same
    generalize (upd H8 q2 (HO.lst [V.str nm])) = H9 at s9 e9 ⊢
    refine ⟨sz2 (n := 2) (by decide), fun p5 n5 => ?_⟩
    have s10 : Same H9 (upd H9 p5 (HO.lst [V.ref A, V.ref q2])) := same_upd n5
    have e10 : (upd H9 p5 (HO.lst [V.ref A, V.ref q2])) p5 = some (HO.lst [V.ref A, V.ref q2]) := upd_same
    generalize (upd H9 p5 (HO.lst [V.ref A, V.ref q2])) = H10 at s10 e10 ⊢
    intro d3 m5
    refine ⟨_, rfl, upd_same, [(Sum.inr k, .str "zzzzzzzzz")], rfl, (by show 1 ≤ 15; decide), ?_⟩
    rw [upd_upd]
    have s11 : Same H10 (upd H10 d3 (HO.dK (mergeK [] [((Sum.inr k : Key), V.str "zzzzzzzzz")]))) := same_upd m5
    have e11 : (upd H10 d3 (HO.dK (mergeK [] [((Sum.inr k : Key), V.str "zzzzzzzzz")]))) d3 = some (HO.dK (mergeK [] [((Sum.inr k : Key), V.str "zzzzzzzzz")])) := upd_same
    generalize (upd H10 d3 (HO.dK (mergeK [] [((Sum.inr k : Key), V.str "zzzzzzzzz")]))) = H11 at s11 e11 ⊢
    intro d4 m6
    have s12 : Same H11 (upd H11 d4 (HO.dK [])) := same_upd m6
    have e12 : (upd H11 d4 (HO.dK [])) d4 = some (HO.dK []) := upd_same
    generalize (upd H11 d4 (HO.dK [])) = H12 at s12 e12 ⊢
    refine ⟨sz2 (n := 2) (by decide), fun p6 n6 => ?_⟩
    have s13 : Same H12 (upd H12 p6 (HO.lst [V.ref d3, V.ref d4])) := same_upd n6
    have e13 : (upd H12 p6 (HO.lst [V.ref d3, V.ref d4])) p6 = some (HO.lst [V.ref d3, V.ref d4]) := upd_same
    generalize (upd H12 p6 (HO.lst [V.ref d3, V.ref d4])) = H13 at s13 e13 ⊢
    refine ⟨sz2 (n := 6) (by decide), fun R nR => ?_⟩
    have s14 : Same H13 (upd H13 R (HO.lst [V.ref p1, V.ref p2, V.ref p3, V.ref p4, V.ref p5, V.ref p6])) := same_upd nR
    have e14 : (upd H13 R (HO.lst [V.ref p1, V.ref p2, V.ref p3, V.ref p4, V.ref p5, V.ref p6])) R = some (HO.lst [V.ref p1, V.ref p2, V.ref p3, V.ref p4, V.ref p5, V.ref p6]) := upd_same
    generalize x14 : (upd H13 R (HO.lst [V.ref p1, V.ref p2, V.ref p3, V.ref p4, V.ref p5, V.ref p6])) = H14 at s14 e14 ⊢
    have t12 : Same H12 H13 := s13
    have t11 : Same H11 H13 := s12.trans t12
    have t10 : Same H10 H13 := s11.trans t11
    have t9 : Same H9 H13 := s10.trans t10
    have t8 : Same H8 H13 := s9.trans t9
    have t7 : Same H7 H13 := s8.trans t8
    have t6 : Same H6 H13 := s7.trans t7
    have t5 : Same H5 H13 := s6.trans t6
    have t4 : Same H4 H13 := s5.trans t5
    have t3 : Same H3 H13 := s4.trans t4
    have t2 : Same H2 H13 := s3.trans t3
    have t1 : Same H1 H13 := s2.trans t2
    have hS13 := hS1.same t1
    have pT : ∀ {H' : Hp}, Same H1 H' → PartV H' (.ref A) true := fun e => pl_part hS1.P hS1.p0 hS1.p8 (e _ _ hS1.a)
    have nqA : q2 ≠ A := (ne_of_none (((s2.trans s3).trans ((s4.trans s5).trans (s6.trans (s7.trans s8)))) _ _ hS1.a) m4).symm
    have FD : Fd P w H1 R 6 H14 := by
      have e : del H14 R = H13 := by rw [← x14, del_upd, del_free nR]
      refine ⟨t1.trans s14, t1.free nR, [p1, p2, p3, p4, p5, p6], e14, Nat.le_refl _, ?_⟩
      rw [e]
      have c1 : Bad P w H13 .non (.ref B) := .inl (.no .non rfl)
      have c2 : Bad P w H13 (.ref A) .non := .inr ⟨pT t1, A, pl ps, rfl, by rw [sk_pl]; exact hS13.a, (by intro z; cases z), .no .non rfl⟩
      have c3 : Bad P w H13 (.ref d1) (.ref d2) := .inl (PartV.dct (l := []) (t4 _ _ e4) (Nat.zero_le _) (fun p hp => nomatch hp) (fun p hp => nomatch hp))
      have c4 : Bad P w H13 (.ref q1) (.ref B) := .inl (.no (.lst (t7 _ _ e7)) rfl)
      have c5 : Bad P w H13 (.ref A) (.ref q2) := .inr ⟨pT t1, A, pl ps, rfl, by rw [sk_pl]; exact hS13.a, (fun z => nqA (V.ref.inj z)), .no (.lst (t9 _ _ e9)) rfl⟩
      have c6 : Bad P w H13 (.ref d3) (.ref d4) := by
        refine .inl ?_
        rw [← part_false (l := [(k, .str "zzzzzzzzz")]) (p := (k, .str "zzzzzzzzz")) (List.mem_singleton.mpr rfl) ?_]
        · refine .dct (t11 _ _ e11) (by show 1 ≤ 100; decide) (fun p hp => ?_) (fun p hp => ?_)
          · have := List.mem_singleton.mp hp
            subst this
            exact w_ok kW
          · have := List.mem_singleton.mp hp
            subst this
            exact ⟨_, .str _, sOk_z⟩
        · show (match look [(k, V.str "zzzzzzzzz")] "zzzzzzzzz" with | some v => eqS v k | none => false) = false
          rw [look_not (fun p hp => ?_)]
          have := List.mem_singleton.mp hp
          subst this
          exact w_ne kW (by decide +kernel)
      have neR : ∀ {p o}, H13 p = some o → p ≠ R := fun e => ne_of_none e nR
      intro p hp
      simp only [List.mem_cons, List.not_mem_nil, or_false] at hp
      rcases hp with rfl | rfl | rfl | rfl | rfl | rfl
      · exact ⟨neR (t2 _ _ e2), _, _, s14 _ _ (t2 _ _ e2), c1⟩
      · exact ⟨neR (t3 _ _ e3), _, _, s14 _ _ (t3 _ _ e3), c2⟩
      · exact ⟨neR (t6 _ _ e6), _, _, s14 _ _ (t6 _ _ e6), c3⟩
      · exact ⟨neR (t8 _ _ e8), _, _, s14 _ _ (t8 _ _ e8), c4⟩
      · exact ⟨neR (t10 _ _ e10), _, _, s14 _ _ (t10 _ _ e10), c5⟩
      · exact ⟨neR e13, _, _, s14 _ _ e13, c6⟩
    clear t12 t11 t10 t9 t8 t7 t6 t5 t4 t3 t2 t1 hS13 nqA s2 s3 s4 s5 s6 s7 s8 s9 s10 s11 s12 s13 s14 e2 e3 e4 e5 e6 e7 e8 e9 e10 e11 e12 e13 e14 n1 n2 n3 n4 n5 n6 m1 m2 m3 m4 m5 m6 nR x14
    -- for value in ..
    refine ⟨_, rfl, sz2 (n := 1) (by decide), fun t0 nt0 => ?_⟩
    have s15 : Same H14 (upd H14 t0 (HO.tup [V.str k])) := same_upd nt0
    have e15 : (upd H14 t0 (HO.tup [V.str k])) t0 = some (HO.tup [V.str k]) := upd_same
    generalize (upd H14 t0 (HO.tup [V.str k])) = H15 at s15 e15 ⊢
    refine ⟨sz2 (n := 8) (by decide), fun T0 nT0 => ?_⟩
    have s16 : Same H15 (upd H15 T0 (HO.tup [V.non, V.str "", V.str "A", V.str "ab1", V.str "abcdefghi", V.int 3, V.bl true, V.ref t0])) := same_upd nT0
    have e16 : (upd H15 T0 (HO.tup [V.non, V.str "", V.str "A", V.str "ab1", V.str "abcdefghi", V.int 3, V.bl true, V.ref t0])) T0 = some (HO.tup [V.non, V.str "", V.str "A", V.str "ab1", V.str "abcdefghi", V.int 3, V.bl true, V.ref t0]) := upd_same
    generalize (upd H15 T0 (HO.tup [V.non, V.str "", V.str "A", V.str "ab1", V.str "abcdefghi", V.int 3, V.bl true, V.ref t0])) = H16 at s16 e16 ⊢
    have F16 := (FD.kp s15).kp s16
    have e15' := s16 _ _ e15
    clear FD s15 s16 nt0 nT0 e15
    have nRT : T0 ≠ R := by obtain ⟨xs, e⟩ := F16.at; exact ne_of e16 e (by intro z; cases z)
    have nRt : t0 ≠ R := by obtain ⟨xs, e⟩ := F16.at; exact ne_of e15' e (by intro z; cases z)
    refine ⟨T0, rfl, ⟨_, SqT.of e16⟩, ?_⟩
    refine for_tup (K := K) (a := T0) (xs := [V.non, V.str "", V.str "A", V.str "ab1", V.str "abcdefghi", V.int 3, V.bl true, V.ref t0]) (fun i σ H' => ∃ (v6 v7 : Option V), σ = [some (.ref d), some (.ref A), some (.ref B), some (.str k), some (.str nm), some (.ref R), v6, v7, none, none] ∧ Fd P w H1 R (6 + i) H' ∧ Kp R H16 H')
      ⟨none, none, rfl, F16, Kp.refl⟩ (fun i σ H' _ p => by obtain ⟨v6, v7, _, _, kp⟩ := p; exact SqT.of (kp _ _ nRT e16)) ?_ ?_
    · rintro i x σ H' hx ⟨v6, v7, rfl, FD, kp⟩
      have hi : i < 8 := (List.getElem?_eq_some_iff.mp hx).1
      refine ⟨_, rfl, A, pk ps, rfl, .inl (FD.same _ _ hS1.a), fun M nM => ?_⟩
      refine ⟨_, rfl, _, rfl, _, rfl, M, _, rfl, DPut.k (k := Sum.inr k) upd_same (small1000 (by unfold pk; rw [List.length_map]; have := hS1.p8; omega)), ?_⟩
      rw [upd_upd]
      have sm : Same H' (upd H' M (HO.dK (putK (pk ps) (Sum.inr k) x))) := same_upd nM
      have em : (upd H' M (HO.dK (putK (pk ps) (Sum.inr k) x))) M = some (HO.dK (putK (pk ps) (Sum.inr k) x)) := upd_same
      generalize (upd H' M (HO.dK (putK (pk ps) (Sum.inr k) x))) = Hm at sm em ⊢
      have Fm := FD.kp sm
      have nMR : M ≠ R := by obtain ⟨xs, e⟩ := Fm.at; exact ne_of em e (by intro z; cases z)
      have bad : Bad P w (del Hm R) (.ref M) (.ref B) := by
        obtain ⟨kd, h1, h2, h3⟩ := vals1 (H := del Hm R) (t0 := t0) (k := k) (by rw [del_ne nRt]; exact sm _ _ (kp _ _ nRt e15')) (w_ok kW) x (List.mem_of_getElem? hx)
        refine .inl (put_part hS1.P hS1.p8 (w_ok kW) h1 h2 (fun z ez => ⟨(w_ne kW (h3 z ez)).symm, fun hz => ?_⟩) (by rw [del_ne nMR, ← put_sk, sk_pl]; exact em))
        obtain ⟨p, hp, e⟩ := List.mem_map.mp hz
        exact w_ne (hS1.P.wd p hp) (h3 z ez) e
      obtain ⟨zs, eR0⟩ := Fm.at
      refine ⟨_, rfl, .inl ⟨rfl, _, SqL.of eR0⟩, _, rfl, _, rfl, sz2 (n := 2) (by decide), fun p np => ?_⟩
      obtain ⟨xs, eR, lR, Fn, Kn⟩ := Fm.add (by omega) np bad
      exact ⟨R, xs, _, rfl, rfl, eR, lR, _, _, rfl, Fn, (kp.trans (Kp.of sm)).trans Kn⟩
    · rintro σ H' ⟨v6, v7, rfl, FD, kp⟩
      clear F16 e15' e16 nRT nRt kp
      have FD : Fd P w H1 R 14 H' := FD
      -- found.extend(..)
      obtain ⟨zs, eR0⟩ := FD.at
      refine ⟨_, rfl, .inl ⟨rfl, _, SqL.of eR0⟩, ?_⟩
      intro a1 na1
      refine ⟨upd_same, [(Sum.inr "r", .str "s"), (Sum.inr "s", .str "s")], rfl, (by show 2 ≤ 15; decide), ?_⟩
      rw [upd_upd]
      have s1 : Same H' (upd H' a1 (HO.dK (mergeK [] [((Sum.inr "r" : Key), V.str "s"), (Sum.inr "s", V.str "s")]))) := same_upd na1
      have e1 : (upd H' a1 (HO.dK (mergeK [] [((Sum.inr "r" : Key), V.str "s"), (Sum.inr "s", V.str "s")]))) a1 = some (HO.dK (mergeK [] [((Sum.inr "r" : Key), V.str "s"), (Sum.inr "s", V.str "s")])) := upd_same
      generalize (upd H' a1 (HO.dK (mergeK [] [((Sum.inr "r" : Key), V.str "s"), (Sum.inr "s", V.str "s")]))) = G1 at s1 e1 ⊢
      intro a2 na2
      have s2 : Same G1 (upd G1 a2 (HO.dK [])) := same_upd na2
      have e2 : (upd G1 a2 (HO.dK [])) a2 = some (HO.dK []) := upd_same
      generalize (upd G1 a2 (HO.dK [])) = G2 at s2 e2 ⊢
      refine ⟨sz2 (n := 2) (by decide), fun a3 na3 => ?_⟩
      have s3 : Same G2 (upd G2 a3 (HO.lst [V.ref a1, V.ref a2])) := same_upd na3
      have e3 : (upd G2 a3 (HO.lst [V.ref a1, V.ref a2])) a3 = some (HO.lst [V.ref a1, V.ref a2]) := upd_same
      generalize (upd G2 a3 (HO.lst [V.ref a1, V.ref a2])) = G3 at s3 e3 ⊢
      intro b1 nb1
      refine ⟨upd_same, [(Sum.inr "r", .str "s"), (Sum.inr "s", .str "t"), (Sum.inr "t", .str "r")], rfl, (by show 3 ≤ 15; decide), ?_⟩
      rw [upd_upd]
      have s4 : Same G3 (upd G3 b1 (HO.dK (mergeK [] [((Sum.inr "r" : Key), V.str "s"), (Sum.inr "s", V.str "t"), (Sum.inr "t", V.str "r")]))) := same_upd nb1
      have e4 : (upd G3 b1 (HO.dK (mergeK [] [((Sum.inr "r" : Key), V.str "s"), (Sum.inr "s", V.str "t"), (Sum.inr "t", V.str "r")]))) b1 = some (HO.dK (mergeK [] [((Sum.inr "r" : Key), V.str "s"), (Sum.inr "s", V.str "t"), (Sum.inr "t", V.str "r")])) := upd_same
      generalize (upd G3 b1 (HO.dK (mergeK [] [((Sum.inr "r" : Key), V.str "s"), (Sum.inr "s", V.str "t"), (Sum.inr "t", V.str "r")]))) = G4 at s4 e4 ⊢
      intro b2 nb2
      have s5 : Same G4 (upd G4 b2 (HO.dK [])) := same_upd nb2
      have e5 : (upd G4 b2 (HO.dK [])) b2 = some (HO.dK []) := upd_same
      generalize (upd G4 b2 (HO.dK [])) = G5 at s5 e5 ⊢
      refine ⟨sz2 (n := 2) (by decide), fun b3 nb3 => ?_⟩
      have s6 : Same G5 (upd G5 b3 (HO.lst [V.ref b1, V.ref b2])) := same_upd nb3
      have e6 : (upd G5 b3 (HO.lst [V.ref b1, V.ref b2])) b3 = some (HO.lst [V.ref b1, V.ref b2]) := upd_same
      generalize (upd G5 b3 (HO.lst [V.ref b1, V.ref b2])) = G6 at s6 e6 ⊢
      refine ⟨sz2 (n := 2) (by decide), fun L nL => ?_⟩
      have s7 : Same G6 (upd G6 L (HO.lst [V.ref a3, V.ref b3])) := same_upd nL
      have e7 : (upd G6 L (HO.lst [V.ref a3, V.ref b3])) L = some (HO.lst [V.ref a3, V.ref b3]) := upd_same
      generalize (upd G6 L (HO.lst [V.ref a3, V.ref b3])) = G7 at s7 e7 ⊢
      have t6 : Same G6 G7 := s7
      have t5 : Same G5 G7 := s6.trans t6
      have t4 : Same G4 G7 := s5.trans t5
      have t3 : Same G3 G7 := s4.trans t4
      have t2 : Same G2 G7 := s3.trans t3
      have t1 : Same G1 G7 := s2.trans t2
      obtain ⟨xs, eR, lR, fR⟩ := (FD.kp (s1.trans t1)).push
      have nd : ∀ {p : Addr} {o : List (Key × V)}, G7 p = some (.dK o) → p ≠ R := fun e => ne_of e eR (by intro z; cases z)
      have nn : ∀ {G : Hp} {p : Addr}, Same H' G → G p = none → p ≠ R := fun e h z => by rw [z, e _ _ eR0] at h; cases h
      have r3 : a3 ≠ R := nn (s1.trans s2) na3
      have r6 : b3 ≠ R := nn ((s1.trans s2).trans ((s3.trans s4).trans s5)) nb3
      have r7 : L ≠ R := nn ((s1.trans s2).trans ((s3.trans s4).trans (s5.trans s6))) nL
      have F7 := fR [a3, b3] (fun p hp => by
        simp only [List.mem_cons, List.not_mem_nil, or_false] at hp
        rcases hp with rfl | rfl
        · exact ⟨r3, _, _, t3 _ _ e3, .inl (rs1 (by rw [del_ne (nd (t1 _ _ e1))]; exact t1 _ _ e1))⟩
        · exact ⟨r6, _, _, t6 _ _ e6, .inl (rs2 (by rw [del_ne (nd (t4 _ _ e4))]; exact t4 _ _ e4))⟩)
      refine ⟨R, L, xs, [V.ref a3, V.ref b3], rfl, rfl, eR, e7, sz2 (n := xs.length + 2) (by omega), ?_⟩
      clear t1 t2 t3 t4 t5 t6 s1 s2 s3 s4 s5 s6 s7 e1 e2 e3 e4 e5 e6 e7 na1 na2 na3 nb1 nb2 nb3 nL nd nn r3 r6 r7 lR fR FD eR0
      have F7 : Fd P w H1 R 16 (upd G7 R (HO.lst (xs ++ [V.ref a3, V.ref b3]))) := F7
      generalize (upd G7 R (HO.lst (xs ++ [V.ref a3, V.ref b3]))) = Ha at F7 ⊢
      have p8 := hS1.p8
      have b8 := hS1.b8
      -- other
      refine ⟨_, rfl, A, pk ps, rfl, .inl (F7.same _ _ hS1.a), fun M nM => ?_⟩
      refine ⟨_, rfl, M, _, rfl, DPut.k (k := Sum.inr "qqqqqqq") upd_same (small1000 (by unfold pk; rw [List.length_map]; omega)), ?_⟩
      rw [upd_upd]
      have sm : Same Ha (upd Ha M (HO.dK (putK (pk ps) (Sum.inr "qqqqqqq") (V.str "qqqqqqqq")))) := same_upd nM
      have em : (upd Ha M (HO.dK (putK (pk ps) (Sum.inr "qqqqqqq") (V.str "qqqqqqqq")))) M = some (HO.dK (putK (pk ps) (Sum.inr "qqqqqqq") (V.str "qqqqqqqq"))) := upd_same
      generalize (upd Ha M (HO.dK (putK (pk ps) (Sum.inr "qqqqqqq") (V.str "qqqqqqqq")))) = Hm at sm em ⊢
      have Fm := F7.kp sm
      have nMR : M ≠ R := by obtain ⟨xs, e⟩ := Fm.at; exact ne_of em e (by intro z; cases z)
      have bad : Bad P w (del Hm R) (.ref M) (.ref B) := by
        refine .inl (put_part (v := .str "qqqqqqqq") hS1.P hS1.p8 sOk_q7 (.str _) sOk_q8 (fun z ez => ?_) (by rw [del_ne nMR, ← put_sk, sk_pl]; exact em))
        rw [← V.str.inj ez]
        exact ⟨by decide +kernel, nq⟩
      obtain ⟨zs, eR0⟩ := Fm.at
      refine ⟨_, rfl, .inl ⟨rfl, _, SqL.of eR0⟩, _, rfl, _, rfl, sz2 (n := 2) (by decide), fun p np => ?_⟩
      obtain ⟨xs, eR, lR, Fn, _⟩ := Fm.add (by omega) np bad
      refine ⟨R, xs, _, rfl, rfl, eR, lR, ?_⟩
      clear bad eR0 F7
      generalize (upd (upd Hm p (HO.lst [V.ref M, V.ref B])) R (HO.lst (xs ++ [V.ref p]))) = Hc at Fn ⊢
      clear eR lR np em sm nM Fm nMR
      -- for value in ..
      refine ⟨Nat.zero_le _, fun t1 nt1 => ?_⟩
      have s1 : Same Hc (upd Hc t1 (HO.tup [])) := same_upd nt1
      have e1 : (upd Hc t1 (HO.tup [])) t1 = some (HO.tup []) := upd_same
      generalize (upd Hc t1 (HO.tup [])) = G1 at s1 e1 ⊢
      refine ⟨_, rfl, sz2 (n := 1) (by decide), fun t' nt' => ?_⟩
      have s2 : Same G1 (upd G1 t' (HO.tup [V.str k])) := same_upd nt'
      have e2 : (upd G1 t' (HO.tup [V.str k])) t' = some (HO.tup [V.str k]) := upd_same
      generalize (upd G1 t' (HO.tup [V.str k])) = G2 at s2 e2 ⊢
      refine ⟨t', 5, [V.str k], rfl, rfl, SqT.of e2, (fun z => nomatch z), by decide, by decide, (by show 1 ≤ 1000; decide), fun t2 nt2 => ?_⟩
      have s3 : Same G2 (upd G2 t2 (HO.tup (List.replicate (Int.toNat 5) [V.str k]).flatten)) := same_upd nt2
      have e3 : (upd G2 t2 (HO.tup (List.replicate (Int.toNat 5) [V.str k]).flatten)) t2 = some (HO.tup (List.replicate (Int.toNat 5) [V.str k]).flatten) := upd_same
      generalize (upd G2 t2 (HO.tup (List.replicate (Int.toNat 5) [V.str k]).flatten)) = G3 at s3 e3 ⊢
      refine ⟨_, rfl, sz2 (n := 1) (by decide), fun u3 nu3 => ?_⟩
      have s4 : Same G3 (upd G3 u3 (HO.lst [V.str k])) := same_upd nu3
      have e4 : (upd G3 u3 (HO.lst [V.str k])) u3 = some (HO.lst [V.str k]) := upd_same
      generalize (upd G3 u3 (HO.lst [V.str k])) = G4 at s4 e4 ⊢
      refine ⟨_, rfl, _, rfl, sz2 (n := 2) (by decide), fun t4 nt4 => ?_⟩
      have s5 : Same G4 (upd G4 t4 (HO.tup [V.str k, V.str "qqqqqqqq"])) := same_upd nt4
      have e5 : (upd G4 t4 (HO.tup [V.str k, V.str "qqqqqqqq"])) t4 = some (HO.tup [V.str k, V.str "qqqqqqqq"]) := upd_same
      generalize (upd G4 t4 (HO.tup [V.str k, V.str "qqqqqqqq"])) = G5 at s5 e5 ⊢
      refine ⟨_, rfl, sz2 (n := 2) (by decide), fun t5 nt5 => ?_⟩
      have s6 : Same G5 (upd G5 t5 (HO.tup [V.str k, V.int 1])) := same_upd nt5
      have e6 : (upd G5 t5 (HO.tup [V.str k, V.int 1])) t5 = some (HO.tup [V.str k, V.int 1]) := upd_same
      generalize (upd G5 t5 (HO.tup [V.str k, V.int 1])) = G6 at s6 e6 ⊢
      refine ⟨sz2 (n := 1) (by decide), fun t6 nt6 => ?_⟩
      have s7 : Same G6 (upd G6 t6 (HO.tup [V.str ""])) := same_upd nt6
      have e7 : (upd G6 t6 (HO.tup [V.str ""])) t6 = some (HO.tup [V.str ""]) := upd_same
      generalize (upd G6 t6 (HO.tup [V.str ""])) = G7 at s7 e7 ⊢
      refine ⟨sz2 (n := 8) (by decide), fun T2 nT2 => ?_⟩
      have s8 : Same G7 (upd G7 T2 (HO.tup [V.non, V.ref t1, V.ref t2, V.ref u3, V.str k, V.ref t4, V.ref t5, V.ref t6])) := same_upd nT2
      have e8 : (upd G7 T2 (HO.tup [V.non, V.ref t1, V.ref t2, V.ref u3, V.str k, V.ref t4, V.ref t5, V.ref t6])) T2 = some (HO.tup [V.non, V.ref t1, V.ref t2, V.ref u3, V.str k, V.ref t4, V.ref t5, V.ref t6]) := upd_same
      generalize (upd G7 T2 (HO.tup [V.non, V.ref t1, V.ref t2, V.ref u3, V.str k, V.ref t4, V.ref t5, V.ref t6])) = G8 at s8 e8 ⊢
      have z7 : Same G7 G8 := s8
      have z6 : Same G6 G8 := s7.trans z7
      have z5 : Same G5 G8 := s6.trans z6
      have z4 : Same G4 G8 := s5.trans z5
      have z3 : Same G3 G8 := s4.trans z4
      have z2 : Same G2 G8 := s3.trans z3
      have z1 : Same G1 G8 := s2.trans z2
      have F8 := Fn.kp (s1.trans z1)
      have f1 := z1 _ _ e1
      have f2 := z3 _ _ e3
      have f3 := z4 _ _ e4
      have f4 := z5 _ _ e5
      have f5 := z6 _ _ e6
      have f6 := z7 _ _ e7
      have nn : ∀ {G : Hp} {p : Addr}, Same Hc G → G p = none → p ≠ R := fun e h z => by
        obtain ⟨xs, er⟩ := Fn.at
        rw [z, e _ _ er] at h
        cases h
      have nR1 : t1 ≠ R := nn (Same.refl _) nt1
      have nR2 : t2 ≠ R := nn (s1.trans s2) nt2
      have nR3 : u3 ≠ R := nn ((s1.trans s2).trans s3) nu3
      have nR4 : t4 ≠ R := nn ((s1.trans s2).trans (s3.trans s4)) nt4
      have nR5 : t5 ≠ R := nn ((s1.trans s2).trans ((s3.trans s4).trans s5)) nt5
      have nR6 : t6 ≠ R := nn ((s1.trans s2).trans ((s3.trans s4).trans (s5.trans s6))) nt6
      have nR8 : T2 ≠ R := nn (((s1.trans s2).trans ((s3.trans s4).trans (s5.trans s6))).trans s7) nT2
      clear z1 z2 z3 z4 z5 z6 z7 s1 s2 s3 s4 s5 s6 s7 s8 e1 e2 e3 e4 e5 e6 e7 nt1 nt' nt2 nu3 nt4 nt5 nt6 nT2 nn Fn
      have nq' : ("qqqqqqqq" : Str) ∉ (pl ps).map (·.1) := by rw [pl_keys]; exact nq
      have ne' : ("" : Str) ∉ (pl ps).map (·.1) := by
        rw [pl_keys]
        intro hz
        obtain ⟨p, hp, e⟩ := List.mem_map.mp hz
        exact w_ne (hS1.P.wd p hp) (by decide +kernel) e
      have nmL : nm.length ≤ sizeLine := Nat.le_of_lt (small1000 (Nat.le_trans nW.hi (by decide)))
      refine ⟨T2, rfl, ⟨_, SqT.of e8⟩, ?_⟩
      refine for_tup (K := K) (a := T2) (xs := [V.non, V.ref t1, V.ref t2, V.ref u3, V.str k, V.ref t4, V.ref t5, V.ref t6]) (fun i σ H' => ∃ (v6 v7 : Option V), σ = [some (.ref d), some (.ref A), some (.ref B), some (.str k), some (.str nm), some (.ref R), v6, v7, some (.ref M), none] ∧ Fd P w H1 R (17 + i) H' ∧ Kp R G8 H')
        ⟨_, _, rfl, F8, Kp.refl⟩ (fun i σ H' _ p => by obtain ⟨v6, v7, _, _, kp⟩ := p; exact SqT.of (kp _ _ nR8 e8)) ?_ ?_
      · rintro i x σ H' hx ⟨v6, v7, rfl, FD, kp⟩
        have hi : i < 8 := (List.getElem?_eq_some_iff.mp hx).1
        refine ⟨_, rfl, B, bk bs, rfl, .inl (FD.same _ _ hS1.b), fun M nM => ?_⟩
        refine ⟨_, rfl, _, rfl, _, rfl, M, _, rfl, DPut.k (k := Sum.inr nm) upd_same (small1000 (by unfold bk; rw [List.length_map]; omega)), ?_⟩
        rw [upd_upd]
        have sm : Same H' (upd H' M (HO.dK (putK (bk bs) (Sum.inr nm) x))) := same_upd nM
        have em : (upd H' M (HO.dK (putK (bk bs) (Sum.inr nm) x))) M = some (HO.dK (putK (bk bs) (Sum.inr nm) x)) := upd_same
        generalize (upd H' M (HO.dK (putK (bk bs) (Sum.inr nm) x))) = Hm at sm em ⊢
        have Fm := FD.kp sm
        have nMR : M ≠ R := by obtain ⟨xs, e⟩ := Fm.at; exact ne_of em e (by intro z; cases z)
        have nMA : M ≠ A := (ne_of_none (FD.same _ _ hS1.a) nM).symm
        have bad : Bad P w (del Hm R) (.ref A) (.ref M) := by
          have hSd := hS1.same Fm.dl
          obtain ⟨kd, h1, h2, h3, h4⟩ := vals2 (H := del Hm R) (l := pl ps) (k := k) (by rw [del_ne nR1]; exact sm _ _ (kp _ _ nR1 f1)) (by rw [del_ne nR2]; exact sm _ _ (kp _ _ nR2 f2)) (by rw [del_ne nR3]; exact sm _ _ (kp _ _ nR3 f3))
            (by rw [del_ne nR4]; exact sm _ _ (kp _ _ nR4 f4)) (by rw [del_ne nR5]; exact sm _ _ (kp _ _ nR5 f5)) (by rw [del_ne nR6]; exact sm _ _ (kp _ _ nR6 f6)) (w_ok kW) nq' ne' x (List.mem_of_getElem? hx)
          refine .inr ⟨pT Fm.dl, A, pl ps, rfl, by rw [sk_pl]; exact hSd.a, (fun z => nMA (V.ref.inj z)), put_blk hSd.O hS1.P b8 (by rw [del_ne nMR]; exact em) (ent_bad h1 h2 h3 (fun z e => ?_) (.inr h4))⟩
          rw [← Sum.inr.inj (Option.some.inj e)]
          exact nmL
        obtain ⟨zs, eR0⟩ := Fm.at
        refine ⟨_, rfl, .inl ⟨rfl, _, SqL.of eR0⟩, _, rfl, _, rfl, sz2 (n := 2) (by decide), fun p np => ?_⟩
        obtain ⟨xs, eR, lR, Fn, Kn⟩ := Fm.add (by omega) np bad
        exact ⟨R, xs, _, rfl, rfl, eR, lR, _, _, rfl, Fn, (kp.trans (Kp.of sm)).trans Kn⟩
      · rintro σ H' ⟨v6, v7, rfl, FD, kp⟩
        have FD : Fd P w H1 R 25 H' := FD
        clear kp F8 f1 f2 f3 f4 f5 f6 nR1 nR2 nR3 nR4 nR5 nR6 nR8 e8
        refine ⟨sz2 (n := 6) (by decide), fun T3 nT3 => ?_⟩
        have ss : Same H' (upd H' T3 (HO.tup [V.str "", V.str "A", V.str "abcdefghi", V.str "a b", V.int 1, V.non])) := same_upd nT3
        have es : (upd H' T3 (HO.tup [V.str "", V.str "A", V.str "abcdefghi", V.str "a b", V.int 1, V.non])) T3 = some (HO.tup [V.str "", V.str "A", V.str "abcdefghi", V.str "a b", V.int 1, V.non]) := upd_same
        generalize (upd H' T3 (HO.tup [V.str "", V.str "A", V.str "abcdefghi", V.str "a b", V.int 1, V.non])) = Hs at ss es ⊢
        have Fs := FD.kp ss
        have nRT : T3 ≠ R := by obtain ⟨xs, e⟩ := Fs.at; exact ne_of es e (by intro z; cases z)
        refine ⟨T3, rfl, ⟨_, SqT.of es⟩, ?_⟩
        refine for_tup (K := K) (a := T3) (xs := [V.str "", V.str "A", V.str "abcdefghi", V.str "a b", V.int 1, V.non]) (fun i σ H' => ∃ (v6 v7 v9 : Option V), σ = [some (.ref d), some (.ref A), some (.ref B), some (.str k), some (.str nm), some (.ref R), v6, v7, some (.ref M), v9] ∧ Fd P w H1 R (25 + i) H' ∧ Kp R Hs H')
          ⟨_, _, _, rfl, Fs, Kp.refl⟩ (fun i σ H' _ p => by obtain ⟨v6, v7, v9, _, _, kp⟩ := p; exact SqT.of (kp _ _ nRT es)) ?_ ?_
        · rintro i x σ H' hx ⟨v6, v7, v9, rfl, FD, kp⟩
          have hi : i < 6 := (List.getElem?_eq_some_iff.mp hx).1
          refine ⟨_, rfl, B, bk bs, rfl, .inl (FD.same _ _ hS1.b), fun M nM => ?_⟩
          have sm : Same H' (upd H' M (HO.dK (bk bs))) := same_upd nM
          have em : (upd H' M (HO.dK (bk bs))) M = some (HO.dK (bk bs)) := upd_same
          generalize (upd H' M (HO.dK (bk bs))) = Hm at sm em ⊢
          refine ⟨_, rfl, sz2 (n := 1) (by decide), fun u nu => ?_⟩
          have su : Same Hm (upd Hm u (HO.tup [V.str k])) := same_upd nu
          have eu : (upd Hm u (HO.tup [V.str k])) u = some (HO.tup [V.str k]) := upd_same
          generalize (upd Hm u (HO.tup [V.str k])) = Hu at su eu ⊢
          have nuM : u ≠ M := (ne_of_none em nu).symm
          have emu := su _ _ em
          have hup := FD.kp (Same.refl _)
          have hT : ∀ {G : Hp}, G u = some (.tup [.str k]) → u ≠ R → Is (del G R) (.ref u) (.tup [.str k]) := fun e n => .tup (by rw [del_ne n]; exact e)
          have nuR : u ≠ R := by obtain ⟨xs, e⟩ := (FD.kp (sm.trans su)).at; exact ne_of eu e (by intro z; cases z)
          have nMR : M ≠ R := by obtain ⟨xs, e⟩ := (FD.kp sm).at; exact ne_of em e (by intro z; cases z)
          have nMA : M ≠ A := (ne_of_none (FD.same _ _ hS1.a) nM).symm
          have sw : ∀ o, Same H' (upd Hu M o) := fun o c q e => by rw [upd_ne (ne_of_none e nM)]; exact su _ _ (sm _ _ e)
          have okT : kOk (.tup [.str k]) := fun x hx => by rw [List.mem_singleton.mp hx]; exact w_ok kW
          have lenT : ∀ xs, Kd.tup [.str k] = .tup xs → xs.length ≤ 100 := fun xs e => by rw [← Kd.tup.inj e]; show 1 ≤ 100; decide
          rcases vals3 x (List.mem_of_getElem? hx) with ⟨kk, rfl, hw, hz⟩ | rfl
          · refine ⟨_, rfl, _, rfl, M, bk bs, rfl, emu, small1000 (by omega), .inl ⟨kk, rfl, ?_⟩⟩
            have sw := sw (HO.dK (putK (bk bs) kk (V.ref u)))
            have ew : (upd Hu M (HO.dK (putK (bk bs) kk (V.ref u)))) M = some (HO.dK (putK (bk bs) kk (V.ref u))) := upd_same
            have ewu : (upd Hu M (HO.dK (putK (bk bs) kk (V.ref u)))) u = some (.tup [.str k]) := by rw [upd_ne nuM]; exact eu
            generalize (upd Hu M (HO.dK (putK (bk bs) kk (V.ref u)))) = Hw at sw ew ewu ⊢
            have Fm := FD.kp sw
            have bad : Bad P w (del Hw R) (.ref A) (.ref M) := by
              have hSd := hS1.same Fm.dl
              exact .inr ⟨pT Fm.dl, A, pl ps, rfl, by rw [sk_pl]; exact hSd.a, (fun z => nMA (V.ref.inj z)), put_blk hSd.O hS1.P b8 (by rw [del_ne nMR]; exact ew) (ent_bad (hT ewu nuR) okT lenT hz (.inl hw))⟩
            obtain ⟨zs, eR0⟩ := Fm.at
            refine ⟨_, rfl, .inl ⟨rfl, _, SqL.of eR0⟩, _, rfl, _, rfl, sz2 (n := 2) (by decide), fun p np => ?_⟩
            obtain ⟨xs, eR, lR, Fn, Kn⟩ := Fm.add (by omega) np bad
            exact ⟨R, xs, _, rfl, rfl, eR, lR, _, _, _, rfl, Fn, (kp.trans (Kp.of sw)).trans Kn⟩
          · refine ⟨_, rfl, _, rfl, M, bk bs, rfl, emu, small1000 (by omega), .inr ⟨rfl, ?_⟩⟩
            have sw := sw (nkO P w M (optK (bk bs) ++ [(none, V.ref u)]))
            have ew : (upd Hu M (nkO P w M (optK (bk bs) ++ [(none, V.ref u)]))) M = some (nkO P w M (optK (bk bs) ++ [(none, V.ref u)])) := upd_same
            have ewu : (upd Hu M (nkO P w M (optK (bk bs) ++ [(none, V.ref u)]))) u = some (.tup [.str k]) := by rw [upd_ne nuM]; exact eu
            have Fm := FD.kp sw
            have bad : Bad P w (del (upd Hu M (nkO P w M (optK (bk bs) ++ [(none, V.ref u)]))) R) (.ref A) (.ref M) := by
              have hSd := hS1.same Fm.dl
              exact .inr ⟨pT Fm.dl, A, pl ps, rfl, by rw [sk_pl]; exact hSd.a, (fun z => nMA (V.ref.inj z)), put_blkN hSd.O hS1.P b8 (by rw [del_ne nMR]; exact ew) (ent_bad (hT ewu nuR) okT lenT (fun z e => nomatch e) (.inl rfl))⟩
            obtain ⟨zs, eR0⟩ := Fm.at
            refine ⟨_, rfl, .inl ⟨rfl, _, SqL.of eR0⟩, _, rfl, _, rfl, sz2 (n := 2) (by decide), fun p np => ?_⟩
            obtain ⟨xs, eR, lR, Fn, Kn⟩ := Fm.add (by omega) np bad
            exact ⟨R, xs, _, rfl, rfl, eR, lR, _, _, _, rfl, Fn, (kp.trans (Kp.of sw)).trans Kn⟩
        · rintro σ H' ⟨v6, v7, v9, rfl, FD, kp⟩
          have FD : Fd P w H1 R 31 H' := FD
          obtain ⟨xs, h1, h2, h3⟩ := FD.ex
          have nRd := D1.nd FD.fr
          have back : Same (del H' R) H' := fun b o e => by
            unfold del at e
            by_cases h : b = R
            · rw [if_pos h] at e; cases e
            · rw [if_neg h] at e; exact e
          refine ⟨_, rfl, q R xs H' (kp1.free nRd FD.fr) h1 (by omega) (fun p hp => ?_) (D1.same FD.same) (kp1.trans (Kp.of FD.same))⟩
          obtain ⟨_, x, y, a, b⟩ := h3 p hp
          exact ⟨x, y, a, b.same back⟩
end
end K1

set_option Elab.async false
set_option linter.all false
set_option maxRecDepth 100000
set_option maxHeartbeats 1000000
namespace K1
open PySem PySem.Spec PyProof.Rows L2
/-- a heap without its tables -/
def noT (H : Hp) : Hp := fun b => match H b with
  | some (.tbl _) => none
  | o => o
theorem noT_eq {H : Hp} {b : Addr} {o : HO} (h : H b = some o) (n : ∀ ps, o ≠ .tbl ps) : noT H b = some o := by
  unfold noT
  rw [h]
  cases o with
  | tbl ps => exact absurd rfl (n ps)
  | _ => rfl
theorem noT_sub {H : Hp} : Same (noT H) H := fun b o e => by
  unfold noT at e
  cases h : H b with
  | none => rw [h] at e; cases e
  | some u =>
    rw [h] at e
    cases u with
    | tbl ps => cases e
    | _ => exact e
theorem noT_no {H : Hp} {b : Addr} {ps : Array Value} : noT H b ≠ some (.tbl ps) := fun e => by
  unfold noT at e
  cases h : H b with
  | none => rw [h] at e; cases e
  | some u =>
    rw [h] at e
    cases u with
    | tbl ps => cases e
    | _ => cases e
theorem noT_ext {H H1 H2 : Hp} (s : Same (noT H) H1) (e : LamX.ExtN H1 H2) : Same (noT H) H2 := fun b o h => e b o (s b o h) (fun ps z => noT_no (h.trans (congrArg some z)))
theorem Is.noT {H : Hp} {v : V} {k : Kd} (h : Is H v k) : Is (noT H) v k := by
  cases h with
  | str z => exact .str z
  | int i => exact .int i
  | bl b => exact .bl b
  | non => exact .non
  | tup h => exact .tup (noT_eq h (by intro ps z; cases z))
  | lst h => exact .lst (noT_eq h (by intro ps z; cases z))
  | dct h => exact .dct (noT_eq h (by intro ps z; cases z))
theorem PartV.noT {H : Hp} {x : V} {r : Bool} (h : PartV H x r) : PartV (noT H) x r := by
  cases h with
  | no h hk => exact .no h.noT hk
  | dct h hl hk hv =>
    refine .dct (noT_eq h (by intro ps z; cases z)) hl hk fun p hp => ?_
    obtain ⟨k, h1, h2⟩ := hv p hp
    exact ⟨k, h1.noT, h2⟩
theorem EntV.noT {H : Hp} {l : List (Str × V)} {k : Option Key} {v : V} {b : Bool} (h : EntV H l k v b) : EntV (noT H) l k v b := by
  obtain ⟨⟨kd, h1, h2, h3⟩, h4⟩ := h
  exact ⟨⟨kd, h1.noT, h2, h3⟩, h4⟩
theorem BlkV.noT {P : Program} {w : World} {H : Hp} {l : List (Str × V)} {x : V} {r : Bool} (h : BlkV P w H l x r) : BlkV P w (noT H) l x r := by
  cases h with
  | no h hk => exact .no h.noT hk
  | dct h hn hl hb he => exact .dct (noT_eq h (by intro ps z; cases z)) hn hl hb fun i k v b h1 h2 => (he i k v b h1 h2).noT
  | nk h hn hl hb he => exact .nk (noT_eq h (by intro ps z; unfold nkO at z; cases z)) hn hl hb fun i k v b h1 h2 => (he i k v b h1 h2).noT
theorem Bad.noT {P : Program} {w : World} {H : Hp} {x y : V} (h : Bad P w H x y) : Bad P w (noT H) x y := by
  rcases h with h | ⟨h, pa, l, h1, h2, h3, h4⟩
  · exact .inl h.noT
  · exact .inr ⟨h.noT, pa, l, h1, noT_eq h2 (by intro ps z; cases z), h3, h4.noT⟩
theorem ShD.noT {H : Hp} {T A B : Addr} {ps : List (Str × Str)} {bs : List (Str × Addr)} (h : ShD H T A B ps bs) : ShD (noT H) T A B ps bs :=
  ⟨noT_eq h.t (by intro ps z; cases z), noT_eq h.a (by intro ps z; cases z), noT_eq h.b (by intro ps z; cases z), h.P, h.O.same fun b xs q => noT_eq q (by intro ps z; cases z), h.p0, h.p8, h.b0, h.b8⟩
theorem SheetAt.noT {C : Addr} {H : Hp} {p pp bp np : Addr} {l b : List (Str × V)} (h : SheetAt C H p pp bp np l b) : SheetAt C (noT H) p pp bp np l b := by
  obtain ⟨⟨dx, h1⟩, ⟨l', h2, h3⟩, ⟨b', h4, h5, h6⟩⟩ := h
  exact ⟨⟨dx, noT_eq h1 (by intro ps z; cases z)⟩, ⟨l', noT_eq h2 (by intro ps z; cases z), h3⟩, ⟨b', noT_eq h4 (by intro ps z; cases z), h5, noT_eq h6 (by intro ps z; cases z)⟩⟩
theorem DrawAt.noT {H : Hp} {d s : Addr} (h : DrawAt H d s) : DrawAt (noT H) d s := by
  obtain ⟨⟨ns, n, h1, h2, h3⟩, h4⟩ := h
  exact ⟨⟨ns, n, noT_eq h1 (by intro ps z; cases z), noT_eq h2 (by intro ps z; cases z), h3⟩, h4⟩
theorem tab_kp {H H' : Hp} {d sc Pt : Addr} {q : Str} (t : LamX.TabS H Pt q) (hD : DrawAt H d sc) (e : Kp d H H') : LamX.TabS H' Pt q := by
  obtain ⟨ps, h1, h2, h3⟩ := t
  obtain ⟨ns, n, e1, _⟩ := hD.ex
  refine ⟨ps, e _ _ (ne_of h1 e1 (by intro z; cases z)) h1, h2, fun pos cv hc => ?_⟩
  obtain ⟨c, g1, g2⟩ := h3 pos cv hc
  exact ⟨c, g1, e _ _ (ne_of g2 e1 (by intro z; unfold LamX.CodeO at z; cases z)) g2⟩
theorem tab_sm {H H' : Hp} {Pt : Addr} {q : Str} (t : LamX.TabS H Pt q) (e : Same H H') : LamX.TabS H' Pt q := t.ext e
/-- two lists, or tuples, of the same texts -/
theorem ne_lists {K : PySem.W.Frag} {H : Hp} {a b : Addr} {zs : List Str} {Q : VK} (h1 : H a = some (.lst (zs.map V.str))) (h2 : H b = some (.lst (zs.map V.str))) (ok : ∀ z ∈ zs, sOk (.str z)) (q : Q (.bl false) H) : rNeD K (.ref a) (.ref b) H Q := by
  obtain ⟨ds, g1, g2, g3⟩ := dp_all (K := K) (H := H) (xs := zs.map V.str) (fun x hx => by
    obtain ⟨z, hz, rfl⟩ := List.mem_map.mp hx
    exact ok z hz)
  have sh : SeqAt.shaped (.list ds) = true := by
    unfold SeqAt.shaped
    simp only [PyData.canLay0, g2, PyData.depth, Bool.true_and]
    exact decide_eq_true (by omega)
  refine ⟨.list ds, .list ds, .lst (SqL.of h1) g1, .lst (SqL.of h2) g1, sh, sh, ?_⟩
  rw [SeqAt.eqv_refl (.list ds) (by simp only [PyData.canLay0, g2])]
  exact q
theorem ne_tups {K : PySem.W.Frag} {H : Hp} {a b : Addr} {zs : List Str} {Q : VK} (h1 : H a = some (.tup (zs.map V.str))) (h2 : H b = some (.tup (zs.map V.str))) (ok : ∀ z ∈ zs, sOk (.str z)) (q : Q (.bl false) H) : rNeD K (.ref a) (.ref b) H Q := by
  obtain ⟨ds, g1, g2, g3⟩ := dp_all (K := K) (H := H) (xs := zs.map V.str) (fun x hx => by
    obtain ⟨z, hz, rfl⟩ := List.mem_map.mp hx
    exact ok z hz)
  have sh : SeqAt.shaped (.tuple ds) = true := by
    unfold SeqAt.shaped
    simp only [PyData.canLay0, g2, PyData.depth, Bool.true_and]
    exact decide_eq_true (by omega)
  refine ⟨.tuple ds, .tuple ds, .tup (SqT.of h1) g1, .tup (SqT.of h2) g1, sh, sh, ?_⟩
  rw [SeqAt.eqv_refl (.tuple ds) (by simp only [PyData.canLay0, g2])]
  exact q
/-- the blocks of a drawn sheet -/
def bl (bs : List (Str × Addr)) : List (Str × V) := bs.map fun p => (p.1, V.ref p.2)
theorem sk_bl (bs : List (Str × Addr)) : sk (bl bs) = bk bs := by
  unfold sk bl bk
  rw [List.map_map]
  rfl
theorem bl_keys (bs : List (Str × Addr)) : (bl bs).map (·.1) = bs.map (·.1) := by
  unfold bl
  rw [List.map_map]
  rfl
theorem look_bl : ∀ (bs : List (Str × Addr)) (a : Str), K1.look (bl bs) a = (K1.look bs a).map V.ref
  | [], _ => rfl
  | p :: r, a => by
    have ih := look_bl r a
    unfold bl look at ih ⊢
    rw [List.map_cons, List.find?_cons, List.find?_cons]
    by_cases h : p.1 = a
    · simp [h]
    · simp only [h, decide_false]
      exact ih
theorem blk_true {P : Program} {w : World} {H : Hp} {ps : List (Str × Str)} {bs : List (Str × Addr)} {a : Addr} (h : BlkOk H ps bs) (hP : PartOk ps) (h8 : bs.length ≤ 8) (e : H a = some (.dK (bk bs))) : BlkV P w H (pl ps) (.ref a) true := by
  have hl : (bk bs).length = bs.length := List.length_map ..
  have e2 : (List.replicate bs.length true).all id = true := by
    rw [List.all_eq_true]
    intro x hx
    rw [(List.mem_replicate.mp hx).2]
    rfl
  rw [← e2]
  refine .dct e (bk_nd h.nd) (by omega) (by rw [List.length_replicate, hl]) fun i k v b hk hb => ?_
  have hb' : b = true := (List.mem_replicate.mp (List.mem_of_getElem? hb)).2
  subst hb'
  have hm := List.mem_of_getElem? hk
  unfold bk at hm
  obtain ⟨q, hq, eq⟩ := List.mem_map.mp hm
  obtain ⟨es, h1, h2, h3, h4⟩ := h.tup q hq
  have ek : k = Sum.inr q.1 := (congrArg Prod.fst eq).symm
  have ev : v = .ref q.2 := (congrArg Prod.snd eq).symm
  subst ek ev
  refine ⟨⟨_, .tup h1, fun x hx => ?_, fun xs e => ?_, ?_⟩, fun z e => ?_⟩
  · obtain ⟨y, hy, rfl⟩ := List.mem_map.mp hx
    obtain ⟨r, hr, rfl⟩ := List.mem_map.mp (h4 y hy)
    exact w_ok (hP.wd r hr)
  · rw [← Kd.tup.inj e, List.length_map]
    omega
  · show true = (wordB q.1 && (decide (1 ≤ (es.map V.str).length) && decide ((es.map V.str).length ≤ 4) && (es.map V.str).all (endB (pl ps))))
    rw [(h.wd q hq).b, List.length_map, decide_eq_true h2, decide_eq_true h3]
    symm
    rw [Bool.true_and, Bool.true_and, Bool.true_and, List.all_eq_true]
    intro x hx
    obtain ⟨y, hy, rfl⟩ := List.mem_map.mp hx
    obtain ⟨r, hr, rfl⟩ := List.mem_map.mp (h4 y hy)
    show (look (pl ps) r.1).isSome = true
    rw [look_pl, look_some hP.nd hr]
    rfl
  · rw [← Sum.inr.inj (Option.some.inj e)]
    exact Nat.le_of_lt (small1000 (Nat.le_trans (h.wd q hq).hi (by decide)))
theorem bad_init {P : Program} {w : World} {C CB : Addr} {H : Hp} {p dx : Addr} {x y : V} {Q : VK} {E : XK} (hp : H p = some (.ins C dx [])) (b : Bad P w H x y) (e : ∀ H', Same H H' → E (.ref CB) none H') : spInit P w C CB [.ref p, x, y] H Q E := by
  rcases b with b | ⟨b, pa, l, h1, h2, h3, h4⟩
  · exact ⟨p, dx, x, y, false, rfl, hp, b, .inl ⟨rfl, e⟩⟩
  · exact ⟨p, dx, x, y, true, rfl, hp, b, .inr ⟨rfl, pa, l, false, h1, h2, h3, h4, .inl ⟨rfl, e⟩⟩⟩
theorem SheetAt.kp {C : Addr} {H H' : Hp} {d sc p pp bp np : Addr} {l b : List (Str × V)} (h : SheetAt C H p pp bp np l b) (hD : DrawAt H d sc) (e : Kp d H H') : SheetAt C H' p pp bp np l b := by
  obtain ⟨⟨dx, h1⟩, ⟨l', h2, h3⟩, ⟨b', h4, h5, h6⟩⟩ := h
  obtain ⟨ns, k, g, _⟩ := hD.ex
  refine ⟨⟨dx, e _ _ (ne_of h1 g (by intro z; cases z)) h1⟩, ⟨l', e _ _ (ne_of h2 g (by intro z; cases z)) h2, h3⟩, ⟨b', e _ _ (ne_of h4 g (by intro z; cases z)) h4, h5, e _ _ (ne_of h6 g (fun z => ?_)) h6⟩⟩
  have z2 := HO.lst.inj z
  cases hb : b'.map (·.1) with
  | nil => rw [hb] at z2; cases z2
  | cons y r =>
    rw [hb] at z2
    exact V.noConfusion (List.cons.inj z2).1
theorem vals4 {H : Hp} {t1 u1 : Addr} (e1 : H t1 = some (.tup [.str "a"])) (e2 : H u1 = some (.lst [.int 1])) : ∀ x ∈ [V.non, V.str "", V.int 1, V.str "A", V.ref t1, V.ref u1], ∃ kd, Is H x kd ∧ ∀ z, kd = .str z → wordB z = false := by
  intro x hx
  have st : ∀ y : Str, wordB y = false → ∃ kd, Is H (.str y) kd ∧ ∀ z, kd = .str z → wordB z = false := fun y h3 => ⟨_, .str y, fun z e => by rw [← Kd.str.inj e]; exact h3⟩
  simp only [List.mem_cons, List.not_mem_nil, or_false] at hx
  rcases hx with rfl | rfl | rfl | rfl | rfl | rfl
  · exact ⟨_, .non, fun z e => nomatch e⟩
  · exact st _ (by decide +kernel)
  · exact ⟨_, .int 1, fun z e => nomatch e⟩
  · exact st _ (by decide +kernel)
  · exact ⟨_, .tup e1, fun z e => nomatch e⟩
  · exact ⟨_, .lst e2, fun z e => nomatch e⟩
theorem init_ok {P : Program} {w : World} {C CB : Addr} {H : Hp} {p dx A Y : Addr} {ps : List (Str × Str)} {bs : List (Str × Addr)} {Q : VK} {E : XK} (hp : H p = some (.ins C dx [])) (hA : H A = some (.dK (pk ps))) (hY : H Y = some (.dK (bk bs))) (hP : PartOk ps) (p0 : ps ≠ []) (p8 : ps.length ≤ 8)
    (O : BlkOk H ps bs) (b8 : bs.length ≤ 8) (n : Y ≠ A) (q : ∀ pp bp np H', SheetAt C H' p pp bp np (pl ps) (bl bs) → (∀ c o, c ≠ p → H c = some o → H' c = some o) → Q .non H') : spInit P w C CB [.ref p, .ref A, .ref Y] H Q E := by
  refine ⟨p, dx, _, _, true, rfl, hp, pl_part hP p0 p8 hA, .inr ⟨rfl, A, pl ps, true, rfl, by rw [sk_pl]; exact hA, (fun z => n (V.ref.inj z)), blk_true O hP b8 hY, .inr ⟨rfl, Y, bl bs, rfl, by rw [sk_bl]; exact hY, ?_, ?_, ?_, ?_, fun pp bp np H' _ _ _ hS k => q pp bp np H' hS k⟩⟩⟩
  · have : (pl ps).length = ps.length := List.length_map ..
    omega
  · rw [pl_keys]; exact hP.nd
  · have : (bl bs).length = bs.length := List.length_map ..
    omega
  · rw [bl_keys]; exact O.nd
theorem bk_drop (bs : List (Str × Addr)) (k : Str) : dropK (bk bs) (Sum.inr k) = bk (bs.filter fun p => decide (p.1 ≠ k)) := by
  unfold dropK bk
  rw [List.filter_map]
  congr 1
  refine List.filter_congr fun p _ => ?_
  rw [Bool.eq_iff_iff]
  simp
theorem BlkOk.sub {H : Hp} {ps : List (Str × Str)} {bs : List (Str × Addr)} (h : BlkOk H ps bs) (k : Str) : BlkOk H ps (bs.filter fun p => decide (p.1 ≠ k)) :=
  ⟨(List.filter_sublist.map _).nodup h.nd, fun p hp => h.wd p (List.mem_filter.mp hp).1, fun p hp => h.tup p (List.mem_filter.mp hp).1⟩
theorem filter_short {bs : List (Str × Addr)} {k : Str} (h : k ∈ bs.map (·.1)) : (bs.filter fun p => decide (p.1 ≠ k)).length < bs.length := by
  obtain ⟨p, hp, e⟩ := List.mem_map.mp h
  refine List.length_filter_lt_length_iff_exists.mpr ⟨p, hp, ?_⟩
  simp [e]
theorem flat_pl (ps : List (Str × Str)) : ∀ x ∈ pl ps, flatR x.2 = true := fun x hx => by
  unfold pl at hx
  obtain ⟨q, _, rfl⟩ := List.mem_map.mp hx
  rfl
theorem flat_bl (bs : List (Str × Addr)) : ∀ x ∈ bl bs, flatR x.2 = true := fun x hx => by
  unfold bl at hx
  obtain ⟨q, _, rfl⟩ := List.mem_map.mp hx
  rfl
/-- the blocks in another order -/
def turnB (bs : List (Str × Addr)) (zs : List Str) : List (Str × Addr) := zs.map fun k => (k, (K1.look bs k).getD 0)
theorem turnB_keys (bs : List (Str × Addr)) (zs : List Str) : (turnB bs zs).map (·.1) = zs := by
  unfold turnB
  rw [List.map_map]
  exact List.map_id _
theorem turnB_mem {bs : List (Str × Addr)} {zs : List Str} (hn : (bs.map (·.1)).Nodup) (hp : ∀ z ∈ zs, z ∈ bs.map (·.1)) {p : Str × Addr} (h : p ∈ turnB bs zs) : p ∈ bs := by
  unfold turnB at h
  obtain ⟨k, hk, rfl⟩ := List.mem_map.mp h
  obtain ⟨q, hq, e⟩ := List.mem_map.mp (hp k hk)
  have := look_some hn hq
  rw [e] at this
  rw [this]
  show (k, q.2) ∈ bs
  rw [← e]
  exact hq
theorem turnB_ok {H : Hp} {ps : List (Str × Str)} {bs : List (Str × Addr)} {zs : List Str} (h : BlkOk H ps bs) (hz : zs.Nodup) (hp : ∀ z ∈ zs, z ∈ bs.map (·.1)) : BlkOk H ps (turnB bs zs) :=
  ⟨by rw [turnB_keys]; exact hz, fun p q => h.wd p (turnB_mem h.nd hp q), fun p q => h.tup p (turnB_mem h.nd hp q)⟩
/-- a loop over a dict's keys -/
theorem for_keys {d : Addr} {o : Obj} {kvs : List (Key × V)} {g : TG} {tb : TS} {D : L2.Ends} {σ : L2.St} {H : Hp} (Pv : Nat → L2.St → Hp → Prop) (h0 : Pv 0 σ H) (hl : ∀ i σ H, Pv i σ H → H d = some (.frz o (.dK kvs)))
    (hs : ∀ i k v σ H, kvs[i]? = some (k, v) → Pv i σ H → g (kV k) σ H fun σ2 H2 => tb { D with nx := Pv (i + 1), ct := Pv (i + 1), bk := D.nx } σ2 H2) (hd : ∀ σ H, Pv kvs.length σ H → D.nx σ H) :
    ∃ W : Nat → Nat → L2.St → Hp → Prop, (∃ m, W 0 m σ H) ∧ ∀ i m σ H, W i m σ H →
      ((Itk d o kvs).stop i H ∧ D.nx σ H) ∨ ((Itk d o kvs).go i H ∧ ∃ N : L2.St → Hp → Prop, (∀ σ' H', N σ' H' → ∃ m', m' < m ∧ W (i + 1) m' σ' H') ∧ ∀ x H', (Itk d o kvs).yld i H x H' → g x σ H' fun σ2 H2 => tb { D with nx := N, ct := N, bk := D.nx } σ2 H2) := by
  refine ⟨fun i m σ H => m = kvs.length - i ∧ i ≤ kvs.length ∧ Pv i σ H, ⟨kvs.length, by simp, Nat.zero_le _, h0⟩, ?_⟩
  rintro i m σ H ⟨rfl, hi, p⟩
  have q := hl i σ H p
  by_cases hlt : i < kvs.length
  · refine .inr ⟨⟨q, hlt⟩, Pv (i + 1), fun σ' H' p' => ⟨kvs.length - (i + 1), by omega, rfl, hlt, p'⟩, fun x H' y => ?_⟩
    obtain ⟨eH, k, v, e, ex⟩ := y
    subst ex
    subst eH
    exact hs i k v σ _ e p
  · have e : i = kvs.length := by omega
    subst e
    exact .inl ⟨⟨q, Nat.le_refl _⟩, hd σ H p⟩
end K1

set_option Elab.async false
set_option linter.all false
set_option maxRecDepth 100000
set_option maxHeartbeats 1000000
namespace K1
open PySem PySem.Spec PyProof.Rows L2
abbrev sLaw : Stmt := topS 30
theorem scLaw : FnScope ["script", "draw", "told", "partners", "blocks", "name", "kind", "turned", "less", "pair", "sheet", "wrong"] ["script"] (defScope sLaw) := ⟨rfl, rfl, rfl, by decide +kernel, rfl, by decide +kernel, by decide +kernel⟩
theorem passF {X : Cx} : Passes (L2.CX X.prog X.w) X C8.E0 := passes_call LamX.takes0 (fun _ _ _ _ h => h)
/-- a method of the sheets -/
structure Mt (P : Program) (w : World) (K : PySem.W.Frag) (mg : Str → Option Value) (base : Heap) (CX : CXT) (k : Nat) (C : Addr) (m : Str) (ps : List Str) (sp : Sp) (f : Addr) (fd : FuncData) : Prop where
  m : Meth K C m f
  G : FnOk P w K mg base CX k f fd ps sp
  b : Binds K fd ps []
/-- a def among the globals, with its promise -/
structure Df (P : Program) (w : World) (K : PySem.W.Frag) (mg : Str → Option Value) (base : Heap) (k : Nat) (x : Str) (st : Stmt) (ps : List Str) (sp : Sp) (f : Addr) (fd : FuncData) : Prop where
  d : D K mg x st ps f fd
  G : FnOk P w K mg base CX0 k f fd ps sp
section
variable {P : Program} {w : World} {K : PySem.W.Frag} {mg : Str → Option Value} {base : Heap}
def spLaw (K : PySem.W.Frag) (Pt : Addr) : Sp := fun vs H Q _ => ∃ (a : Addr) (ns : List Int), vs = [.ref a] ∧ SqL K H a (ns.map V.int) ∧ ns.length ≤ 63 ∧ H Pt = some (.tbl #[]) ∧ ∀ H', Q (.bl true) H'
theorem ok_law {f oX oS oJ oL oP oE : Addr} {fX fS fJ fL fP fE : FuncData} {C CB CK CN CE fI gK gN gJ gP gT gE gL gC gI gQ : Addr} {fdI dK dN dJ dP dT dE dL dC dI dQ : FuncData}
    {oc doc kV pm ct : Value} {od an : Option Addr} {osl : Array (Option Value)} {c Pt g : Addr} {oc2 kV2 doc2 pm2 cd2 ct2 : Value} {od2 an2 : Option Addr} {osl2 : Array (Option Value)}
    (lk : K.lookup f = some ⟨oc, od, .func (PySem.W.fnOf "law" "law" (defArgs sLaw) (defBody sLaw) (defScope sLaw) .none kV doc pm an (.ref c) ct), osl⟩) (hcd : PySem.W.codeIn K (.ref c) "law" = true)
    (nx : Df P w K mg base 3 "_law_next" sNext ["draw", "bound"] spNext oX fX) (sh : Df P w K mg base 8 "_law_sheet" sSheet ["draw", "joints", "many", "top"] spSheet oS fS)
    (lj : Df P w K mg base 1 "_law_joint" sLJoint ["sheet", "kind"] spLJoint oJ fJ) (ls : Df P w K mg base 1 "_law_joints" sLJoints ["sheet"] spLJoints oL fL)
    (pk_ : Df P w K mg base 4 "_law_pick" sPick ["draw", "things"] (spPick K) oP fP) (so : Df P w K mg base 5 "_law_spoilt" sSpoilt ["draw", "partners", "blocks"] (spSpoilt P w) oE fE)
    (Bt : Bi mg) (many : mg "any" = none) (S : ClsS K mg C) (M : Mk K C fI) (GI : FnOk P w K mg base (L2.CX P w) 4 fI fdI ["self", "partners", "blocks"] (spInit P w C CB)) (bI : Binds K fdI ["self", "partners", "blocks"] [])
    (mk : Mt P w K mg base CX0 1 C "kinds" ["self"] (spKinds C) gK dK) (mn : Mt P w K mg base CX0 1 C "names" ["self"] (spNames C) gN dN) (mj : Mt P w K mg base CX0 1 C "joints" ["self"] (spJoints C) gJ dJ)
    (mp : Mt P w K mg base (L2.CX P w) 1 C "partner" ["self", "kind"] (spGet C CK true) gP dP) (mt : Mt P w K mg base (L2.CX P w) 2 C "joint" ["self", "kind"] (spJoint C CK) gT dT) (me : Mt P w K mg base (L2.CX P w) 1 C "ends" ["self", "name"] (spGet C CN false) gE dE)
    (ml : Mt P w K mg base CX0 1 C "__len__" ["self"] (spLen C) gL dL) (mc : Mt P w K mg base CX0 1 C "__contains__" ["self", "name"] (spCont C) gC dC) (mi : Mt P w K mg base CX0 1 C "__iter__" ["self"] (spIter C) gI dI) (Fi : Fun K "__iter__" "Sheet.__iter__" sIter gI dI)
    (mq : Mt P w K mg base CX0 1 C "__eq__" ["self", "other"] (spEqS C) gQ dQ) (pO : PySem.W.plainOver K C = true) (nE : PySem.W.findIn K (.ref C) "__ne__" = some (some (.builtin "object.__ne__")))
    (TB : LamX.TabB base mg c Pt) (mE : mg "_law_error" = some (.ref g)) (kE : PySem.W.keepIn K (.ref g) = true)
    (lkE : K.lookup g = some ⟨oc2, od2, .func (PySem.W.fnOf "_law_error" "_law_error" (defArgs sErr) (defBody sErr) (defScope sErr) .none kV2 doc2 pm2 an2 cd2 ct2), osl2⟩) (hcE : PySem.W.codeIn K cd2 "_law_error" = true)
    (bE : Binds K (PySem.W.fnOf "_law_error" "_law_error" (defArgs sErr) (defBody sErr) (defScope sErr) .none kV2 doc2 pm2 an2 cd2 ct2) ["work"] [])
    (gS : mg "BadSheet" = some (.ref CB)) (gB : mg "BadBlock" = some (.ref CN)) (gK' : mg "BadKind" = some (.ref CK)) (gE' : mg "EndsmeetError" = some (.ref CE)) (Ex : Exm K CB CN CK CE) (EC : ExcC K CB) :
    FnOk P w K mg base CX0 9 f (PySem.W.fnOf "law" "law" (defArgs sLaw) (defBody sLaw) (defScope sLaw) .none kV doc pm an (.ref c) ct) ["script"] (spLaw K Pt) := by
  refine fn_of lk hcd scLaw (fun vs H Q E h => ?_) (fun A outer s H vs Q E hr h => ?_)
  · obtain ⟨a, ns, rfl, _⟩ := h
    rfl
  · obtain ⟨a, ns, rfl, ha, hlen, hTb, q⟩ := h
    have hu := hu_of hr
    have h64 := h64_of hr
    have r1 : Room 1 _ := hr.mono (by decide)
    have r3 : Room 3 _ := hr.mono (by decide)
    have r8 : Room 8 _ := hr.mono (by decide)
    suffices hh : ∃ t, PSs (cxOf CX0 P w K mg base ["script", "draw", "told", "partners", "blocks", "name", "kind", "turned", "less", "pair", "sheet", "wrong"] "law" (defScope sLaw) f (.ref c) A outer s H E).nox (defBody sLaw) t ∧ t { nx := fun _ H' => Q .non H', rt := Q } (L2.start _ _) H by
      obtain ⟨t, h1, h2⟩ := hh
      exact ⟨t, h1.nox, h2⟩
    obtain ⟨qn, hqn⟩ : ∃ qn, qn = (cxOf CX0 P w K mg base ["script", "draw", "told", "partners", "blocks", "name", "kind", "turned", "less", "pair", "sheet", "wrong"] "law" (defScope sLaw) f (.ref c) A outer s H E).nox.env.qual ++ "<lambda>" := ⟨_, rfl⟩
    refine ⟨_, pss_cons (ps_set (i := 1) scLaw.nd rfl (.inl rfl) (pe_lst (pa_cons (pe_slice sl_list (pv 0) po_none (po_some pe_int)) (pa_cons pe_int (pa_cons pe_int pa_nil)))))
      (pss_cons (ps_set (i := 2) scLaw.nd rfl (.inr rfl) (pe_call sh.G hr (by rfl) sh.d.m sh.d.F.kp sh.d.b .nil pass0 (pa_cons (pv 1)
        (pa_cons (pe_op op_add pe_int (pe_call nx.G r3 (by rfl) nx.d.m nx.d.F.kp nx.d.b .nil pass0 (pa_cons (pv 1) (pa_cons pe_int pa_nil))))
        (pa_cons (pe_op op_add pe_int (pe_call nx.G r3 (by rfl) nx.d.m nx.d.F.kp nx.d.b .nil pass0 (pa_cons (pv 1) (pa_cons pe_int pa_nil)))) (pa_cons pe_int pa_nil))))))
      (pss_cons (ps_if (PW.pt (pw_or (pt_cmp (pc_din hu pe_str (pe_ix ix_list (pv 2) pe_int (fun _ _ => rfl)))) (pw_or1 (pt_cmp (pc_din hu pe_str (pe_ix ix_list (pv 2) pe_int (fun _ _ => rfl))))))) (pss_one (ps_ret pe_bl)) pss_nil)
      (pss_cons (ps_par (i := 3) (j := 4) rfl scLaw.nd rfl rfl (by decide) rfl rfl (pa_cons (pe_callTy call_dictD (by rfl) Bt.dict boot_dict (pa_cons (pe_ix ix_list (pv 2) pe_int (fun _ _ => rfl)) pa_nil)) (pa_cons (pe_callTy call_dictD (by rfl) Bt.dict boot_dict (pa_cons (pe_ix ix_list (pv 2) pe_int (fun _ _ => rfl)) pa_nil)) pa_nil)) (by rfl))
      (pss_cons (ps_set (i := 10) scLaw.nd rfl (.inr rfl) (pe_make M GI (hr.mono (by decide)) (by rfl) S.g bI .nil passF (pa_cons (pv 3) (pa_cons (pv 4) pa_nil))))
      (pss_cons (ps_expr (pe_dclear (pv 3)))
      (pss_cons (ps_expr (pe_dclear (pv 4)))
      (pss_cons (ps_if (PW.pt (pw_or (pt_cmpR (op_neD h64) (pe_meth0 (pv 10) S.cl mk.m mk.G r1 mk.b .nil pass0) (pe_callB (call_sortedD rfl) (by rfl) Bt.sorted boot_sorted (pa_cons (pe_ix ix_list (pv 2) pe_int (fun _ _ => rfl)) pa_nil)) (nomark _))
          (pw_or (pt_cmpR (op_neD h64) (pe_meth0 (pv 10) S.cl mn.m mn.G r1 mn.b .nil pass0) (pe_callB (call_sortedD rfl) (by rfl) Bt.sorted boot_sorted (pa_cons (pe_ix ix_list (pv 2) pe_int (fun _ _ => rfl)) pa_nil)) (nomark _))
          (pw_or1 (pt_cmpR (op_neD h64) (pe_meth0 (pv 10) S.cl mj.m mj.G r1 mj.b .nil pass0) (pe_call ls.G r1 (by rfl) ls.d.m ls.d.F.kp ls.d.b .nil pass0 (pa_cons (pv 2) pa_nil)) (nomark _)))))) (pss_one (ps_ret pe_bl)) pss_nil)
      (pss_cons (ps_if (PW.pt (pw_or (pt_cmpR op_ne (pe_callB (call_lenOwn ml.G ml.m.at_ ml.m.fn ml.b pass0 (hr.mono (by decide))) (by rfl) Bt.len PySem.boot_len (pa_cons (pv 10) pa_nil)) (pe_callB call_lenD (by rfl) Bt.len PySem.boot_len (pa_cons (pe_ix ix_list (pv 2) pe_int (fun _ _ => rfl)) pa_nil)) (nomark _))
          (pw_or (pt_cmpR (op_neD h64) (pe_lc (own := [("name", 5)]) (g := gName 5) (tt := tYes) rfl scLaw.nd (pi_own (pv 10) Fi Bt S mi.m mi.b r1) (blkOk_by (own := [("name", 5)]) (N := ["script", "draw", "told", "partners", "blocks", "name", "kind", "turned", "less", "pair", "sheet", "wrong"]) (sc := defScope sLaw) (by decide +kernel))
              (fun _ _ _ _ _ => pg_name (i := 5) scLaw.nd rfl (Or.inl rfl)) (fun _ _ _ _ _ => pts_nil) (fun _ _ _ _ _ => pv 5)) (pe_callB (call_sortedD rfl) (by rfl) Bt.sorted boot_sorted (pa_cons (pe_ix ix_list (pv 2) pe_int (fun _ _ => rfl)) pa_nil)) (nomark _))
          (pw_or1 (pt_cmpR (op_inOwn mc.G mc.m.at_ mc.m.fn mc.b pass0 r1) pe_str (pv 10) (by rfl)))))) (pss_one (ps_ret pe_bl)) pss_nil)
      (pss_cons (ps_lock (ps_for PassesOwn.never rfl (pi_keys (pe_ix ix_list (pv 2) pe_int (fun _ _ => rfl))) (pg_name (i := 6) scLaw.nd rfl (.inl rfl))
        (pss_one (ps_if (PW.pt (pw_or (pt_cmpR op_ne (pe_meth (pv 10) S.cl mp.m mp.G r1 mp.b .nil passF (pa_cons (pv 6) pa_nil)) (pe_dget hu (pe_ix ix_list (pv 2) pe_int (fun _ _ => rfl)) (pv 6) (fun _ _ => rfl)) (nomark _))
          (pw_or1 (pt_cmpR op_ne (pe_meth (pv 10) S.cl mt.m mt.G (hr.mono (by decide)) mt.b .nil passF (pa_cons (pv 6) pa_nil)) (pe_call lj.G r1 (by rfl) lj.d.m lj.d.F.kp lj.d.b .nil pass0 (pa_cons (pv 2) (pa_cons (pv 6) pa_nil))) (nomark _))))) (pss_one (ps_ret pe_bl)) pss_nil))))
      (pss_cons (ps_if (pt_val (pe_callB (cr_any rfl) (by rfl) many boot_any (pa_cons (pe_lock (pe_lc (own := [("name", 5)]) (g := gName 5) (tt := tYes) rfl scLaw.nd (pi_keys (pe_ix ix_list (pv 2) pe_int (fun _ _ => rfl))) (blkOk_by (own := [("name", 5)]) (N := ["script", "draw", "told", "partners", "blocks", "name", "kind", "turned", "less", "pair", "sheet", "wrong"]) (sc := defScope sLaw) (by decide +kernel))
          (fun _ _ _ _ _ => pg_name (i := 5) scLaw.nd rfl (Or.inl rfl)) (fun _ _ _ _ _ => pts_nil)
          (fun _ _ _ _ _ => pe_or (pe_cmpR (show OpR _ _ (rNeD K) from op_neD h64) (pe_meth (pv 10) S.cl me.m me.G r1 me.b .nil passF (pa_cons (pv 5) pa_nil)) (pe_dget hu (pe_ix (show IxR _ (rIxL K) from ix_list) (pv 2) pe_int (fun _ _ => rfl)) (pv 5) (fun _ _ => rfl)) (nomark _))
            (pe_one (pe_cmpR (op_notInOwn mc.G mc.m.at_ mc.m.fn mc.b pass0 r1) (pv 5) (pv 10) (by rfl)))))) pa_nil))) (pss_one (ps_ret pe_bl)) pss_nil)
      (pss_cons (ps_expr (pe_bm PySem.F.plainAttrs_list PySem.F.slot_list_append PySem.F.type_list_append mt_append (pe_meth0 (pv 10) S.cl mk.m mk.G r1 mk.b .nil pass0) (pa_cons pe_str pa_nil)))
      (pss_cons (ps_expr (pe_bm0 PySem.F.plainAttrs_list PySem.F.slot_list_clear PySem.F.type_list_clear mt_clear (pe_meth0 (pv 10) S.cl mn.m mn.G r1 mn.b .nil pass0)))
      (pss_cons (ps_expr (pe_bm0 PySem.F.plainAttrs_list PySem.F.slot_list_clear PySem.F.type_list_clear mt_clear (pe_meth0 (pv 10) S.cl mj.m mj.G r1 mj.b .nil pass0)))
      (pss_cons (ps_if (PW.pt (pw_or (pt_cmpR (op_neD h64) (pe_meth0 (pv 10) S.cl mn.m mn.G r1 mn.b .nil pass0) (pe_callB (call_sortedD rfl) (by rfl) Bt.sorted boot_sorted (pa_cons (pe_ix ix_list (pv 2) pe_int (fun _ _ => rfl)) pa_nil)) (nomark _))
          (pw_or1 (pt_cmpR (op_neD h64) (pe_meth0 (pv 10) S.cl mj.m mj.G r1 mj.b .nil pass0) (pe_call ls.G r1 (by rfl) ls.d.m ls.d.F.kp ls.d.b .nil pass0 (pa_cons (pv 2) pa_nil)) (nomark _))))) (pss_one (ps_ret pe_bl)) pss_nil)
      (pss_cons (ps_for PassesOwn.never rfl (pi_list (pe_call so.G (hr.mono (by decide)) (by rfl) so.d.m so.d.F.kp so.d.b .nil pass0 (pa_cons (pv 1) (pa_cons (pe_ix ix_list (pv 2) pe_int (fun _ _ => rfl)) (pa_cons (pe_ix ix_list (pv 2) pe_int (fun _ _ => rfl)) pa_nil))))) (pg_name (i := 9) scLaw.nd rfl (.inr rfl))
        (pss_one (ps_if (pt_cmpR op_ne (LamX.pe_lamcall (T := [(Pt, qn)]) (by rfl) mE kE lkE hcE bE scErr rfl (.inl rfl) (err_gives Bt.isi gS gB gK' gE' Ex EC) TB rfl (List.mem_singleton.mpr (by rw [hqn])) (fun p hp _ => by rw [List.mem_singleton.mp hp]; exact hqn) (hr.mono (by decide) : Room (5 + 2) _) (show LamX.LamS (defScope sLaw) _ from LamX.lamS_by (by decide +kernel)) rfl (fun _ _ _ _ _ => rfl)
          (fun A outer s H E f c' hr' => pe_make M GI hr' (by rfl) S.g bI .nil (passes_call (takes_of rfl rfl rfl rfl) (fun _ _ _ _ h => h)) (pa_cons (pe_ix (show IxR _ (rIxL K) from ix_list) (pv 9) pe_int (fun _ _ => rfl)) (pa_cons (pe_ix (show IxR _ (rIxL K) from ix_list) (pv 9) pe_int (fun _ _ => rfl)) pa_nil)))) pe_str (nomark _)) (pss_one (ps_ret pe_bl)) pss_nil)))
      (pss_cons (ps_set (i := 11) scLaw.nd rfl (.inr rfl) (pe_call pk_.G (hr.mono (by decide)) (by rfl) pk_.d.m pk_.d.F.kp pk_.d.b .nil pass0 (pa_cons (pv 1) (pa_cons (pe_lst (pa_cons pe_non (pa_cons pe_str (pa_cons pe_int (pa_cons pe_str (pa_cons (pe_tup (pa_cons pe_str pa_nil)) (pa_cons (pe_lst (pa_cons pe_int pa_nil)) pa_nil))))))) pa_nil))))
      (pss_cons (ps_if (pt_cmpR op_ne (LamX.pe_lamcall (T := [(Pt, qn)]) (by rfl) mE kE lkE hcE bE scErr rfl (.inl rfl) (err_gives Bt.isi gS gB gK' gE' Ex EC) TB rfl (List.mem_singleton.mpr (by rw [hqn])) (fun p hp _ => by rw [List.mem_singleton.mp hp]; exact hqn) (hr.mono (by decide) : Room (5 + 2) _) (show LamX.LamS (defScope sLaw) _ from LamX.lamS_by (by decide +kernel)) rfl (fun _ _ _ _ _ => rfl)
          (fun A outer s H E f c' hr' => pe_meth (pv 10) S.cl mp.m mp.G (hr'.mono (by decide)) mp.b .nil (passes_call (takes_of rfl rfl rfl rfl) (fun _ _ _ _ h => h)) (pa_cons (pv 11) pa_nil))) pe_str (nomark _)) (pss_one (ps_ret pe_bl)) pss_nil)
      (pss_cons (ps_if (pt_cmpR op_ne (LamX.pe_lamcall (T := [(Pt, qn)]) (by rfl) mE kE lkE hcE bE scErr rfl (.inl rfl) (err_gives Bt.isi gS gB gK' gE' Ex EC) TB rfl (List.mem_singleton.mpr (by rw [hqn])) (fun p hp _ => by rw [List.mem_singleton.mp hp]; exact hqn) (hr.mono (by decide) : Room (5 + 2) _) (show LamX.LamS (defScope sLaw) _ from LamX.lamS_by (by decide +kernel)) rfl (fun _ _ _ _ _ => rfl)
          (fun A outer s H E f c' hr' => pe_meth (pv 10) S.cl mt.m mt.G (hr'.mono (by decide)) mt.b .nil (passes_call (takes_of rfl rfl rfl rfl) (fun _ _ _ _ h => h)) (pa_cons (pv 11) pa_nil))) pe_str (nomark _)) (pss_one (ps_ret pe_bl)) pss_nil)
      (pss_cons (ps_if (pt_cmpR op_ne (LamX.pe_lamcall (T := [(Pt, qn)]) (by rfl) mE kE lkE hcE bE scErr rfl (.inl rfl) (err_gives Bt.isi gS gB gK' gE' Ex EC) TB rfl (List.mem_singleton.mpr (by rw [hqn])) (fun p hp _ => by rw [List.mem_singleton.mp hp]; exact hqn) (hr.mono (by decide) : Room (5 + 2) _) (show LamX.LamS (defScope sLaw) _ from LamX.lamS_by (by decide +kernel)) rfl (fun _ _ _ _ _ => rfl)
          (fun A outer s H E f c' hr' => pe_meth (pv 10) S.cl me.m me.G (hr'.mono (by decide)) me.b .nil (passes_call (takes_of rfl rfl rfl rfl) (fun _ _ _ _ h => h)) (pa_cons (pv 11) pa_nil))) pe_str (nomark _)) (pss_one (ps_ret pe_bl)) pss_nil)
      (pss_cons (ps_set (i := 7) scLaw.nd rfl (.inl rfl) pe_dnewK)
      (pss_cons (ps_for PassesOwn.never rfl (pi_list (pe_revL (pe_callB (call_sortedD rfl) (by rfl) Bt.sorted boot_sorted (pa_cons (pe_ix ix_list (pv 2) pe_int (fun _ _ => rfl)) pa_nil)))) (pg_name (i := 5) scLaw.nd rfl (.inl rfl))
        (pss_one (ps_dput hu (pv 7) (pv 5) (pe_dget hu (pe_ix ix_list (pv 2) pe_int (fun _ _ => rfl)) (pv 5) (fun _ _ => rfl)) rfl)))
      (pss_cons (ps_set (i := 5) scLaw.nd rfl (.inl rfl) (pe_ix ix_list (pe_callB (call_sortedD rfl) (by rfl) Bt.sorted boot_sorted (pa_cons (pe_ix ix_list (pv 2) pe_int (fun _ _ => rfl)) pa_nil)) pe_int (fun _ _ => rfl)))
      (pss_cons (ps_set (i := 8) scLaw.nd rfl (.inl rfl) (pe_callTy call_dictD (by rfl) Bt.dict boot_dict (pa_cons (pe_ix ix_list (pv 2) pe_int (fun _ _ => rfl)) pa_nil)))
      (pss_cons (ps_expr (pe_dpop1 (pv 8) (pv 5) ⟨rfl, rfl, rfl, rfl⟩))
      (pss_one (ps_ret (pe_and (pe_cmpR (op_eqOwn mq.G mq.m.at_ mq.m.fn mq.b pass0 r1) (pe_make M GI (hr.mono (by decide)) (by rfl) S.g bI .nil passF (pa_cons (pe_ix ix_list (pv 2) pe_int (fun _ _ => rfl)) (pa_cons (pv 7) pa_nil))) (pv 10) (nomark _))
        (pe_and (pe_cmpR (op_neOwn mq.G pO nE mq.m.at_ mq.m.fn mq.b pass0 (hr.mono (by decide))) (pe_make M GI (hr.mono (by decide)) (by rfl) S.g bI .nil passF (pa_cons (pe_ix ix_list (pv 2) pe_int (fun _ _ => rfl)) (pa_cons (pv 8) pa_nil))) (pv 10) (nomark _))
        (pe_one (pe_cmpR (op_neOwn mq.G pO nE mq.m.at_ mq.m.fn mq.b pass0 (hr.mono (by decide))) (pe_make M GI (hr.mono (by decide)) (by rfl) S.g bI .nil passF (pa_cons (pe_ix ix_list (pv 2) pe_int (fun _ _ => rfl)) (pa_cons pe_dnewK pa_nil))) (pv 10) (nomark _))))))))))))))))))))))))))))))), ?_⟩
    -- draw
    obtain ⟨ms, hms⟩ : ∃ ms : List Int, cutV (ns.map V.int) none (some 63) = ms.map V.int := ⟨_, by unfold cutV; rw [← List.map_drop, ← List.map_take]⟩
    refine ⟨_, rfl, 63, rfl, a, _, rfl, ha, fun sc nsc => ?_⟩
    rw [hms]
    have sa : Same H (upd H sc (HO.lst (ms.map V.int))) := same_upd nsc
    have ea : (upd H sc (HO.lst (ms.map V.int))) sc = some (HO.lst (ms.map V.int)) := upd_same
    generalize (upd H sc (HO.lst (ms.map V.int))) = Ha at sa ea ⊢
    refine ⟨sz2 (n := 3) (by decide), fun d nd => ?_⟩
    have sb : Same Ha (upd Ha d (HO.lst [V.ref sc, V.int 0, V.int 0])) := same_upd nd
    have eb : (upd Ha d (HO.lst [V.ref sc, V.int 0, V.int 0])) d = some (HO.lst [V.ref sc, V.int 0, V.int 0]) := upd_same
    generalize (upd Ha d (HO.lst [V.ref sc, V.int 0, V.int 0])) = Hb at sb eb ⊢
    have Db : DrawAt Hb d sc := ⟨⟨ms, 0, eb, sb _ _ ea, Int.le_refl _⟩, ne_of_none ea nd⟩
    have tb : LamX.TabS Hb Pt qn := LamX.TabS.nil ((sa.trans sb) _ _ hTb)
    clear ha hTb sa sb ea eb nd nsc
    -- told
    refine ⟨_, rfl, ?_⟩
    refine ⟨_, rfl, d, sc, 3, rfl, Db, by decide, fun r1 Hc a1 b1 Dc kc => ⟨_, _, rfl, rfl, ?_⟩⟩
    refine ⟨_, rfl, d, sc, 4, rfl, Dc, by decide, fun r2 Hd a2 b2 Dd kd => ⟨_, _, rfl, rfl, ?_⟩⟩
    refine ⟨d, sc, _, _, _, rfl, Dd, by omega, by omega, by omega, by omega, by decide, by decide, fun T A B ps bs He hS nT nA nB De ke => ?_⟩
    have nTd := Dd.nd nT
    have te : LamX.TabS He Pt qn := tab_kp (tab_kp (tab_kp tb Db kc) Dc kd) Dd ke
    clear tb Db Dc Dd kc kd ke nA nB nT a1 b1 a2 b2
    -- if .. in told[0] or .. in told[0]
    refine ⟨_, rfl, T, _, 0, _, rfl, rfl, SqL.of hS.t, at_of (j := 0) rfl rfl, A, _, rfl, DGet.k (k := Sum.inr "qqqqqqq") hS.a, _, rfl, ?_⟩
    cases hq7 : (valV (pk ps) (Sum.inr "qqqqqqq")).isSome with
    | true =>
      show if true = true then _ else _
      rw [if_pos rfl]
      show if true = true then _ else _
      rw [if_pos rfl]
      exact q He
    | false =>
    show if false = true then _ else _
    rw [if_neg Bool.false_ne_true]
    refine ⟨_, rfl, T, _, 0, _, rfl, rfl, SqL.of hS.t, at_of (j := 0) rfl rfl, A, _, rfl, DGet.k (k := Sum.inr "qqqqqqqq") hS.a, _, rfl, ?_⟩
    cases hq8 : (valV (pk ps) (Sum.inr "qqqqqqqq")).isSome with
    | true =>
      show if true = true then _ else _
      rw [if_pos rfl]
      exact q He
    | false =>
    show if false = true then _ else _
    rw [if_neg Bool.false_ne_true]
    have nq : ("qqqqqqqq" : Str) ∉ ps.map (·.1) := fun hm => by
      obtain ⟨p, hp, e⟩ := List.mem_map.mp hm
      have hl := look_some hS.P.nd hp
      rw [← e] at hq8
      unfold pk at hq8
      rw [valV_map, hl] at hq8
      cases hq8
    clear hq7 hq8
    -- partners, blocks
    have p8 := hS.p8
    have b8 := hS.b8
    refine ⟨_, rfl, T, _, 0, _, rfl, rfl, SqL.of hS.t, at_of (j := 0) rfl rfl, A, pk ps, rfl, .inl hS.a, fun PA nPA => ?_⟩
    have s1 : Same He (upd He PA (HO.dK (pk ps))) := same_upd nPA
    have e1 : (upd He PA (HO.dK (pk ps))) PA = some (HO.dK (pk ps)) := upd_same
    generalize (upd He PA (HO.dK (pk ps))) = H1 at s1 e1 ⊢
    have hS1 := hS.same s1
    refine ⟨_, rfl, T, _, 1, _, rfl, rfl, SqL.of hS1.t, at_of (j := 1) rfl rfl, B, bk bs, rfl, .inl hS1.b, fun PB nPB => ?_⟩
    have s2 : Same H1 (upd H1 PB (HO.dK (bk bs))) := same_upd nPB
    have e2 : (upd H1 PB (HO.dK (bk bs))) PB = some (HO.dK (bk bs)) := upd_same
    generalize (upd H1 PB (HO.dK (bk bs))) = H2 at s2 e2 ⊢
    have hS2 := hS1.same s2
    have D2 := (De.same s1).same s2
    have t2 := tab_sm (tab_sm te s1) s2
    have e1' := s2 _ _ e1
    have nPAB : PA ≠ PB := ne_of_none e1 nPB
    have nTP : T ≠ PA := ne_of_none hS.t nPA
    have nTQ : T ≠ PB := ne_of_none hS1.t nPB
    have nAP : A ≠ PA := ne_of_none hS.a nPA
    have nBP : B ≠ PA := ne_of_none hS.b nPA
    have nAQ : A ≠ PB := ne_of_none hS1.a nPB
    have nBQ : B ≠ PB := ne_of_none hS1.b nPB
    have nsP : sc ≠ PA := (De.ns nPA).symm
    have ndP : d ≠ PA := (De.nd nPA).symm
    have nsQ : sc ≠ PB := ((De.same s1).ns nPB).symm
    have ndQ : d ≠ PB := ((De.same s1).nd nPB).symm
    clear hS1 hS De te s1 s2 e1 nPA nPB
    refine ⟨_, _, rfl, ?_⟩
    -- sheet = Sheet(partners, blocks)
    refine ⟨_, rfl, _, rfl, fun SH dx nSH ndx nds => ?_⟩
    have es : (upd (upd H2 dx (.own SH)) SH (.ins C dx [])) SH = some (.ins C dx []) := upd_same
    have ss : Same H2 (upd (upd H2 dx (.own SH)) SH (.ins C dx [])) := fun b o e => by rw [upd_ne (ne_of_none e nSH), upd_ne (ne_of_none e ndx)]; exact e
    generalize (upd (upd H2 dx (.own SH)) SH (.ins C dx [])) = H3 at es ss ⊢
    have hS3 := hS2.same ss
    refine ⟨SH, dx, _, _, true, rfl, es, pl_part hS3.P hS3.p0 hS3.p8 (ss _ _ e1'), .inr ⟨rfl, PA, pl ps, true, rfl, by rw [sk_pl]; exact ss _ _ e1', (fun z => nPAB (V.ref.inj z).symm), blk_true hS3.O hS3.P b8 (ss _ _ e2), .inr ⟨rfl, PB, bl bs, rfl, by rw [sk_bl]; exact ss _ _ e2, ?_, ?_, ?_, ?_, fun pp bp np H4 npp nbp nnp hA k4 => ?_⟩⟩⟩
    · have : (pl ps).length = ps.length := List.length_map ..
      omega
    · rw [pl_keys]; exact hS3.P.nd
    · have : (bl bs).length = bs.length := List.length_map ..
      omega
    · rw [bl_keys]; exact hS3.O.nd
    refine ⟨rfl, ?_⟩
    have k24 : Same H2 H4 := fun b o e => k4 b o (ne_of_none e nSH) (ss b o e)
    have hpp : pp ≠ PA ∧ pp ≠ PB := ⟨(ne_of_none (ss _ _ e1') npp).symm, (ne_of_none (ss _ _ e2) npp).symm⟩
    have hbp : bp ≠ PA ∧ bp ≠ PB := ⟨(ne_of_none (ss _ _ e1') nbp).symm, (ne_of_none (ss _ _ e2) nbp).symm⟩
    have hnp : np ≠ PA ∧ np ≠ PB := ⟨(ne_of_none (ss _ _ e1') nnp).symm, (ne_of_none (ss _ _ e2) nnp).symm⟩
    have hsh : SH ≠ PA ∧ SH ≠ PB := ⟨(ne_of_none e1' nSH).symm, (ne_of_none e2 nSH).symm⟩
    have hS4 := hS2.same k24
    have D4 := D2.same k24
    have t4 := tab_sm t2 k24
    have ePA := k24 _ _ e1'
    have ePB := k24 _ _ e2
    -- partners.clear(), blocks.clear()
    refine ⟨_, rfl, .inr (.inr (.inl ⟨rfl, .inl ⟨_, ePA⟩⟩)), PA, _, rfl, rfl, ePA, ?_⟩
    refine ⟨_, rfl, .inr (.inr (.inl ⟨rfl, .inl ⟨_, by rw [upd_ne nPAB.symm]; exact ePB⟩⟩)), PB, _, rfl, rfl, by rw [upd_ne nPAB.symm]; exact ePB, ?_⟩
    have cl : ∀ b o, b ≠ PA → b ≠ PB → H4 b = some o → (upd (upd H4 PA (.dK [])) PB (.dK [])) b = some o := fun b o n1 n2 e => by rw [upd_ne n2, upd_ne n1]; exact e
    generalize (upd (upd H4 PA (.dK [])) PB (.dK [])) = H6 at cl ⊢
    have u1S : ShD H6 T A B ps bs := ⟨cl _ _ nTP nTQ hS4.t, cl _ _ nAP nAQ hS4.a, cl _ _ nBP nBQ hS4.b, hS4.P, hS4.O.same fun b xs e => cl _ _ (ne_of e ePA (by intro z; cases z)) (ne_of e ePB (by intro z; cases z)) e, hS4.p0, hS4.p8, hS4.b0, hS4.b8⟩
    have u1A : SheetAt C H6 SH pp bp np (pl ps) (bl bs) := by
      obtain ⟨⟨dx', g1⟩, ⟨l', g2, g3⟩, ⟨b', g4, g5, g6⟩⟩ := hA
      exact ⟨⟨dx', cl _ _ hsh.1 hsh.2 g1⟩, ⟨l', cl _ _ hpp.1 hpp.2 g2, g3⟩, ⟨b', cl _ _ hbp.1 hbp.2 g4, g5, cl _ _ hnp.1 hnp.2 g6⟩⟩
    have u1D : DrawAt H6 d sc := by
      obtain ⟨⟨ns, n, g1, g2, g3⟩, g4⟩ := D4
      exact ⟨⟨ns, n, cl _ _ ndP ndQ g1, cl _ _ nsP nsQ g2, g3⟩, g4⟩
    have u1t : LamX.TabS H6 Pt qn := by
      obtain ⟨ps', g1, g2, g3⟩ := t4
      refine ⟨ps', cl _ _ (ne_of g1 ePA (by intro z; cases z)) (ne_of g1 ePB (by intro z; cases z)) g1, g2, fun pos cv hc => ?_⟩
      obtain ⟨c', u1, u2⟩ := g3 pos cv hc
      exact ⟨c', u1, cl _ _ (ne_of u2 ePA (by intro z; unfold LamX.CodeO at z; cases z)) (ne_of u2 ePB (by intro z; unfold LamX.CodeO at z; cases z)) u2⟩
    have hpA : pp ≠ A ∧ bp ≠ A := ⟨(ne_of_none hS3.a npp).symm, (ne_of_none hS3.a nbp).symm⟩
    have hpB : pp ≠ B ∧ bp ≠ B := ⟨(ne_of_none hS3.b npp).symm, (ne_of_none hS3.b nbp).symm⟩
    clear cl hS4 D4 t4 ePA ePB hA k4 k24 ss es e1' e2 hS2 hS3 D2 t2 nTP nTQ nAP nAQ nBP nBQ nsP ndP nsQ ndQ hpp hbp hnp hsh npp nbp nnp nSH ndx nds nPAB
    -- three comparisons
    obtain ⟨dxu1, oxu1⟩ := u1A.ob
    refine ⟨_, rfl, SH, dxu1, _, rfl, oxu1, flds_no _ _ _ (by decide +kernel) (by decide +kernel) (by decide +kernel), SH, pp, bp, np, pl ps, bl bs, rfl, u1A, fun L1u1 ksu1 peu1 sou1 nlu1 => ?_⟩
    have s1u1 : Same H6 (upd H6 L1u1 (HO.lst (ksu1.map V.str))) := same_upd nlu1
    have e1u1 : (upd H6 L1u1 (HO.lst (ksu1.map V.str))) L1u1 = some (HO.lst (ksu1.map V.str)) := upd_same
    generalize (upd H6 L1u1 (HO.lst (ksu1.map V.str))) = u11 at s1u1 e1u1 ⊢
    refine ⟨_, rfl, T, _, 0, _, rfl, rfl, SqL.of (s1u1 _ _ u1S.t), at_of (j := 0) rfl rfl, A, pk ps, ps.map (·.1), rfl, .inl (s1u1 _ _ u1S.a), by unfold pk; rw [List.map_map, List.map_map]; rfl, by rw [List.length_map]; omega, fun ysu1 L2u1 pfu1 squ1 nmu1 => ?_⟩
    have eku1 : ysu1 = ksu1 := sorted_one squ1 sou1 (pfu1.trans (by rw [← pl_keys]; exact peu1.symm))
    subst eku1
    have s2u1 : Same u11 (upd u11 L2u1 (HO.lst (ysu1.map V.str))) := same_upd nmu1
    have e2u1 : (upd u11 L2u1 (HO.lst (ysu1.map V.str))) L2u1 = some (HO.lst (ysu1.map V.str)) := upd_same
    generalize (upd u11 L2u1 (HO.lst (ysu1.map V.str))) = u12 at s2u1 e2u1 ⊢
    refine ne_lists (s2u1 _ _ e1u1) e2u1 (fun z hz => ?_) ⟨_, rfl, ?_⟩
    · have hz := pfu1.mem_iff.mp hz
      obtain ⟨p, hp, rfl⟩ := List.mem_map.mp hz
      exact w_ok (u1S.P.wd p hp)
    show if false = true then _ else _
    rw [if_neg Bool.false_ne_true]
    have u1S' := (u1S.same s1u1).same s2u1
    have u1A' := (u1A.same s1u1).same s2u1
    have u1D' := (u1D.same s1u1).same s2u1
    have u1t' := tab_sm (tab_sm u1t s1u1) s2u1
    have u2S := u1S'
    have u2A := u1A'
    have u2D := u1D'
    have u2t := u1t'
    clear u1S u1A u1D u1t u1S' u1A' u1D' u1t' s1u1 s2u1 e1u1 e2u1 nmu1 nlu1 peu1 sou1 pfu1 squ1 oxu1
    obtain ⟨dxu2, oxu2⟩ := u2A.ob
    refine ⟨_, rfl, SH, dxu2, _, rfl, oxu2, flds_no _ _ _ (by decide +kernel) (by decide +kernel) (by decide +kernel), SH, pp, bp, np, pl ps, bl bs, rfl, u2A, fun L1u2 ksu2 peu2 sou2 nlu2 => ?_⟩
    have s1u2 : Same u12 (upd u12 L1u2 (HO.lst (ksu2.map V.str))) := same_upd nlu2
    have e1u2 : (upd u12 L1u2 (HO.lst (ksu2.map V.str))) L1u2 = some (HO.lst (ksu2.map V.str)) := upd_same
    generalize (upd u12 L1u2 (HO.lst (ksu2.map V.str))) = u21 at s1u2 e1u2 ⊢
    refine ⟨_, rfl, T, _, 1, _, rfl, rfl, SqL.of (s1u2 _ _ u2S.t), at_of (j := 1) rfl rfl, B, bk bs, bs.map (·.1), rfl, .inl (s1u2 _ _ u2S.b), by unfold bk; rw [List.map_map, List.map_map]; rfl, by rw [List.length_map]; omega, fun ysu2 L2u2 pfu2 squ2 nmu2 => ?_⟩
    have eku2 : ysu2 = ksu2 := sorted_one squ2 sou2 (pfu2.trans (by rw [← bl_keys]; exact peu2.symm))
    subst eku2
    have s2u2 : Same u21 (upd u21 L2u2 (HO.lst (ysu2.map V.str))) := same_upd nmu2
    have e2u2 : (upd u21 L2u2 (HO.lst (ysu2.map V.str))) L2u2 = some (HO.lst (ysu2.map V.str)) := upd_same
    generalize (upd u21 L2u2 (HO.lst (ysu2.map V.str))) = u22 at s2u2 e2u2 ⊢
    refine ne_lists (s2u2 _ _ e1u2) e2u2 (fun z hz => ?_) ⟨_, rfl, ?_⟩
    · have hz := pfu2.mem_iff.mp hz
      obtain ⟨p, hp, rfl⟩ := List.mem_map.mp hz
      exact w_ok (u2S.O.wd p hp)
    show if false = true then _ else _
    rw [if_neg Bool.false_ne_true]
    have u2S' := (u2S.same s1u2).same s2u2
    have u2A' := (u2A.same s1u2).same s2u2
    have u2D' := (u2D.same s1u2).same s2u2
    have u2t' := tab_sm (tab_sm u2t s1u2) s2u2
    have u3S := u2S'
    have u3A := u2A'
    have u3D := u2D'
    have u3t := u2t'
    clear u2S u2A u2D u2t u2S' u2A' u2D' u2t' s1u2 s2u2 e1u2 e2u2 nmu2 nlu2 peu2 sou2 pfu2 squ2 oxu2
    obtain ⟨dxu3, oxu3⟩ := u3A.ob
    refine ⟨_, rfl, SH, dxu3, _, rfl, oxu3, flds_no _ _ _ (by decide +kernel) (by decide +kernel) (by decide +kernel), SH, pp, bp, np, ps, bl bs, rfl, u3A, u3S.P.nd, by omega, fun L1u3 jsu3 u31 peu3 sou3 nlu3 e1u3 s1u3 => ?_⟩
    refine ⟨_, rfl, T, A, B, ps, rfl, s1u3 _ _ u3S.t, s1u3 _ _ u3S.a, u3S.P.nd, by omega, fun p hp => ⟨p.2, look_some u3S.P.nd hp⟩, fun L2u3 isu3 u32 pfu3 squ3 nmu3 e2u3 s2u3 => ?_⟩
    have eku3 : isu3 = jsu3 := sorted_one squ3 sou3 (pfu3.trans peu3.symm)
    subst eku3
    refine ne_lists (s2u3 _ _ e1u3) e2u3 (fun z hz => ?_) ⟨_, rfl, ?_⟩
    · have hz := pfu3.mem_iff.mp hz
      obtain ⟨p, hp, rfl⟩ := List.mem_map.mp hz
      exact w_ok (u3S.P.wd p (List.mem_filter.mp hp).1)
    show if false = true then _ else _
    rw [if_neg Bool.false_ne_true]
    have u3S' := (u3S.same s1u3).same s2u3
    have u3A' := (u3A.same s1u3).same s2u3
    have u3D' := (u3D.same s1u3).same s2u3
    have u3t' := tab_sm (tab_sm u3t s1u3) s2u3
    have u4S := u3S'
    have u4A := u3A'
    have u4D := u3D'
    have u4t := u3t'
    clear u3S u3A u3D u3t u3S' u3A' u3D' u3t' s1u3 s2u3 e1u3 e2u3 nmu3 nlu3 peu3 sou3 pfu3 squ3 oxu3
    -- len(sheet) != len(told[1]) or [name for name in sheet] != sorted(told[1]) or "A" in sheet
    obtain ⟨dx4, ox4⟩ := u4A.ob
    have hbl : (bl bs).length = bs.length := List.length_map ..
    have hbk : (bk bs).length = bs.length := List.length_map ..
    have e8 : (!decide (V.int ((bl bs).length : Int) = V.int ((bk bs).length : Int))) = false := by rw [hbl, hbk]; simp
    refine ⟨_, rfl, SH, dx4, _, rfl, ox4, SH, pp, bp, np, pl ps, bl bs, rfl, u4A, _, rfl, ⟨by omega, by omega⟩, ?_⟩
    refine ⟨_, rfl, T, _, 1, _, rfl, rfl, SqL.of u4S.t, at_of (j := 1) rfl rfl, B, bk bs, rfl, u4S.b, rfl, false, by rw [e8], ?_⟩
    show if false = true then _ else _
    rw [if_neg Bool.false_ne_true]
    obtain ⟨b', h4, h5, h6⟩ := u4A.bt
    refine ⟨_, rfl, SH, pp, bp, np, pl ps, bl bs, rfl, u4A, fun L nL => ?_⟩
    refine lc_list (K := K) (a := np) (xs := (b'.map (·.1)).map V.str) (fun i H' => H' = upd u32 L (.lst (((b'.map (·.1)).take i).map V.str))) rfl (fun i H' _ e => by rw [e]; exact SqL.of (by rw [upd_ne (ne_of_none h6 nL)]; exact h6)) ?_ ?_
    · rintro i x H' hx rfl
      rw [List.getElem?_map] at hx
      cases hj : (b'.map (·.1))[i]? with
      | none => rw [hj] at hx; cases hx
      | some y =>
        rw [hj] at hx
        have ex : x = V.str y := (Option.some.inj hx).symm
        subst ex
        have hi : i < (b'.map (·.1)).length := (List.getElem?_eq_some_iff.mp hj).1
        refine ⟨rfl, _, rfl, _, upd_same, ?_, ?_⟩
        · rw [List.length_map, List.length_take]
          have := h5.len
          rw [List.length_map] at hi
          exact small1000 (by omega)
        · rw [upd_upd, List.take_add_one, hj, List.map_append]
          rfl
    rintro H' rfl
    rw [List.length_map, List.take_length]
    have s41 : Same u32 (upd u32 L (HO.lst ((b'.map (·.1)).map V.str))) := same_upd nL
    have e41 : (upd u32 L (HO.lst ((b'.map (·.1)).map V.str))) L = some (HO.lst ((b'.map (·.1)).map V.str)) := upd_same
    generalize (upd u32 L (HO.lst ((b'.map (·.1)).map V.str))) = v1 at s41 e41 ⊢
    refine ⟨_, rfl, T, _, 1, _, rfl, rfl, SqL.of (s41 _ _ u4S.t), at_of (j := 1) rfl rfl, B, bk bs, bs.map (·.1), rfl, .inl (s41 _ _ u4S.b), by unfold bk; rw [List.map_map, List.map_map]; rfl, by rw [List.length_map]; omega, fun ys L2 pf sq nm => ?_⟩
    have ek : ys = b'.map (·.1) := sorted_one sq h5.sorted (pf.trans (by rw [← bl_keys]; exact h5.perm.symm))
    subst ek
    have s42 : Same v1 (upd v1 L2 (HO.lst ((b'.map (·.1)).map V.str))) := same_upd nm
    have e42 : (upd v1 L2 (HO.lst ((b'.map (·.1)).map V.str))) L2 = some (HO.lst ((b'.map (·.1)).map V.str)) := upd_same
    generalize (upd v1 L2 (HO.lst ((b'.map (·.1)).map V.str))) = v2 at s42 e42 ⊢
    refine ne_lists (s42 _ _ e41) e42 (fun z hz => ?_) ⟨_, rfl, ?_⟩
    · have hz := pf.mem_iff.mp hz
      obtain ⟨p, hp, rfl⟩ := List.mem_map.mp hz
      exact w_ok (u4S.O.wd p hp)
    show if false = true then _ else _
    rw [if_neg Bool.false_ne_true]
    have u5S := (u4S.same s41).same s42
    have u5A := (u4A.same s41).same s42
    have u5D := (u4D.same s41).same s42
    have u5t := tab_sm (tab_sm u4t s41) s42
    clear u4S u4A u4D u4t s41 s42 e41 e42 nm nL pf sq ox4 h4 h5 h6
    obtain ⟨dx5, ox5⟩ := u5A.ob
    have eA : K1.look (bl bs) "A" = none := look_none (by
      rw [bl_keys]
      intro hz
      obtain ⟨p, hp, e⟩ := List.mem_map.mp hz
      exact w_ne (u5S.O.wd p hp) (by decide +kernel) e)
    refine ⟨_, rfl, SH, dx5, _, rfl, ox5, SH, pp, bp, np, pl ps, bl bs, "A", rfl, u5A, by rw [bl_keys]; exact u5S.O.nd, false, by rw [eA]; rfl, _, rfl, ?_⟩
    show if false = true then _ else _
    rw [if_neg Bool.false_ne_true]
    -- for kind in told[0]
    have lockS : ∀ {X : Addr} {u : List (Key × V)} (H : Hp) (o : HO), H X = some (.dK u) → pp ≠ X → bp ≠ X → SheetAt C H SH pp bp np (pl ps) (bl bs) → SheetAt C (upd H X o) SH pp bp np (pl ps) (bl bs) := fun {X u} H o hX n1 n2 h => by
      obtain ⟨⟨dx', g1⟩, ⟨l', g2, g3⟩, ⟨b', g4, g5, g6⟩⟩ := h
      exact ⟨⟨dx', by rw [upd_ne (ne_of g1 hX (by intro z; cases z))]; exact g1⟩, ⟨l', by rw [upd_ne n1]; exact g2, g3⟩, ⟨b', by rw [upd_ne n2]; exact g4, g5, by rw [upd_ne (ne_of g6 hX (by intro z; cases z))]; exact g6⟩⟩
    refine ⟨A, _, u5S.a, True.intro, fun od => ?_⟩
    have nTA : T ≠ A := ne_of u5S.t u5S.a (by intro z; cases z)
    have lT : (upd v2 A (.frz od (.dK (pk ps)))) T = some (.lst [.ref A, .ref B]) := by rw [upd_ne nTA]; exact u5S.t
    have lA := lockS v2 (.frz od (.dK (pk ps))) u5S.a hpA.1 hpA.2 u5A
    have lL : (upd v2 A (.frz od (.dK (pk ps)))) A = some (.frz od (.dK (pk ps))) := upd_same
    refine ⟨_, rfl, T, _, 0, _, rfl, rfl, SqL.of lT, at_of (j := 0) rfl rfl, A, od, rfl, .inl ⟨_, lL, ?_⟩⟩
    generalize hHL : (upd v2 A (.frz od (.dK (pk ps)))) = HL at lT lA lL ⊢
    refine for_keys (fun i σ H' => (∃ v6, σ = [some (.ref a), some (.ref d), some (.ref T), some (.ref PA), some (.ref PB), none, v6, none, none, none, some (.ref SH), none]) ∧ Same HL H') ⟨⟨_, rfl⟩, Same.refl _⟩ (fun i σ H' p => p.2 _ _ lL) ?_ ?_
    · rintro i kk vv σ H' hkv ⟨⟨v6, rfl⟩, s5⟩
      obtain ⟨p, hp, rfl, rfl⟩ : ∃ p, ps[i]? = some p ∧ kk = Sum.inr p.1 ∧ vv = .str p.2 := by
        unfold pk at hkv
        rw [List.getElem?_map] at hkv
        cases hp : ps[i]? with
        | none => rw [hp] at hkv; cases hkv
        | some p =>
          rw [hp] at hkv
          have := Option.some.inj hkv
          exact ⟨p, rfl, (congrArg Prod.fst this).symm, (congrArg Prod.snd this).symm⟩
      have hl := look_some u5S.P.nd (List.mem_of_getElem? hp)
      have hl2 : K1.look (pl ps) p.1 = some (.str p.2) := by rw [look_pl, hl]; rfl
      have hA5 := lA.same s5
      obtain ⟨dx', ox'⟩ := hA5.ob
      refine ⟨_, rfl, SH, dx', _, rfl, ox', flds_no _ _ _ (by decide +kernel) (by decide +kernel) (by decide +kernel), _, rfl, SH, pp, bp, np, pl ps, bl bs, .str p.1, .str p.1, rfl, hA5, .str _, by show ((pl ps).map (·.1)).Nodup; rw [pl_keys]; exact u5S.P.nd, .inl ⟨p.1, .str p.2, rfl, hl2, ?_⟩⟩
      refine ⟨_, rfl, T, _, 0, _, rfl, rfl, SqL.of (s5 _ _ lT), at_of (j := 0) rfl rfl, _, rfl, A, .str p.2, rfl, .inl ⟨_, Sum.inr p.1, .inr ⟨od, s5 _ _ lL⟩, rfl, by rw [← sk_pl, sk_val, hl2]⟩, rfl, false, by simp, ?_⟩
      show if false = true then _ else _
      rw [if_neg Bool.false_ne_true]
      refine ⟨_, rfl, SH, dx', _, rfl, ox', flds_no _ _ _ (by decide +kernel) (by decide +kernel) (by decide +kernel), _, rfl, SH, pp, bp, np, pl ps, bl bs, .str p.1, .str p.1, rfl, hA5, .str _, by rw [pl_keys]; exact u5S.P.nd, .inl ⟨p.1, p.2, rfl, hl2, ?_⟩⟩
      refine ⟨_, rfl, _, rfl, T, A, B, ps, p.1, p.2, rfl, s5 _ _ lT, .inr ⟨od, s5 _ _ lL⟩, hl, fun H'' s6 => ⟨rfl, false, by simp, ?_⟩⟩
      show if false = true then _ else _
      rw [if_neg Bool.false_ne_true]
      exact ⟨⟨_, rfl⟩, s5.trans s6⟩
    · rintro σ H' ⟨⟨v6, rfl⟩, s5⟩
      refine ⟨s5 _ _ lL, ?_⟩
      have s6 := Same.lock u5S.a (by rw [hHL]; exact s5)
      have u6S := u5S.same s6
      have u6A := u5A.same s6
      have u6D := u5D.same s6
      have u6t := tab_sm u5t s6
      clear u5S u5A u5D u5t s5 s6 lT lA lL hHL
      generalize (upd H' A (.dK (pk ps))) = H7 at u6S u6A u6D u6t ⊢
      -- any(..)
      refine ⟨B, _, u6S.b, True.intro, fun od => ?_⟩
      have nTB : T ≠ B := ne_of u6S.t u6S.b (by intro z; cases z)
      have lT : (upd H7 B (.frz od (.dK (bk bs)))) T = some (.lst [.ref A, .ref B]) := by rw [upd_ne nTB]; exact u6S.t
      have lA := lockS H7 (.frz od (.dK (bk bs))) u6S.b hpB.1 hpB.2 u6A
      have lL : (upd H7 B (.frz od (.dK (bk bs)))) B = some (.frz od (.dK (bk bs))) := upd_same
      have lO : ∀ p ∈ bs, ∃ es, Ends (upd H7 B (.frz od (.dK (bk bs)))) ps p.2 es := fun p hp => by
        obtain ⟨es, h1, h2⟩ := u6S.O.tup p hp
        exact ⟨es, by rw [upd_ne (ne_of h1 u6S.b (by intro z; cases z))]; exact h1, h2⟩
      refine ⟨_, rfl, T, _, 1, _, rfl, rfl, SqL.of lT, at_of (j := 1) rfl rfl, B, od, rfl, .inl ⟨_, lL, fun L nL => ?_⟩⟩
      generalize hHL : (upd H7 B (.frz od (.dK (bk bs)))) = HL at lT lA lL lO nL ⊢
      have nLB : B ≠ L := ne_of_none lL nL
      refine lc_keys (fun i H2 => H2 L = some (.lst ((List.replicate i false).map V.bl)) ∧ ∀ c o, c ≠ L → HL c = some o → H2 c = some o) ⟨upd_same, fun c o n e => by rw [upd_ne n]; exact e⟩ (fun i H2 q => q.2 _ _ nLB lL) ?_ ?_
      · rintro i kk vv H2 hkv ⟨e1, e2⟩
        obtain ⟨p, hp, rfl, rfl⟩ : ∃ p, bs[i]? = some p ∧ kk = Sum.inr p.1 ∧ vv = .ref p.2 := by
          unfold bk at hkv
          rw [List.getElem?_map] at hkv
          cases hp : bs[i]? with
          | none => rw [hp] at hkv; cases hkv
          | some p =>
            rw [hp] at hkv
            have := Option.some.inj hkv
            exact ⟨p, rfl, (congrArg Prod.fst this).symm, (congrArg Prod.snd this).symm⟩
        have hi : i < bs.length := (List.getElem?_eq_some_iff.mp hp).1
        have hl := look_some u6S.O.nd (List.mem_of_getElem? hp)
        have hl2 : K1.look (bl bs) p.1 = some (.ref p.2) := by rw [look_bl, hl]; rfl
        have s2 : Same HL H2 := fun c o e => e2 c o (ne_of_none e nL) e
        have hA5 := lA.same s2
        obtain ⟨dx', ox'⟩ := hA5.ob
        obtain ⟨es, t1, t2, t3, t4⟩ := lO p (List.mem_of_getElem? hp)
        refine ⟨rfl, _, rfl, SH, dx', _, rfl, ox', flds_no _ _ _ (by decide +kernel) (by decide +kernel) (by decide +kernel), _, rfl, SH, pp, bp, np, pl ps, bl bs, .str p.1, .str p.1, rfl, hA5, .str _, by show ((bl bs).map (·.1)).Nodup; rw [bl_keys]; exact u6S.O.nd, .inl ⟨p.1, .ref p.2, rfl, hl2, ?_⟩⟩
        refine ⟨_, rfl, T, _, 1, _, rfl, rfl, SqL.of (s2 _ _ lT), at_of (j := 1) rfl rfl, _, rfl, B, .ref p.2, rfl, .inl ⟨_, Sum.inr p.1, .inr ⟨od, s2 _ _ lL⟩, rfl, by rw [← sk_bl, sk_val, hl2]⟩, ?_⟩
        refine ne_tups (s2 _ _ t1) (s2 _ _ t1) (fun z hz => ?_) ⟨_, rfl, ?_⟩
        · obtain ⟨r, hr, rfl⟩ := List.mem_map.mp (t4 z hz)
          exact w_ok (u6S.P.wd r hr)
        show if false = true then _ else _
        rw [if_neg Bool.false_ne_true]
        refine ⟨_, rfl, _, rfl, SH, dx', _, rfl, ox', SH, pp, bp, np, pl ps, bl bs, p.1, rfl, hA5, by rw [bl_keys]; exact u6S.O.nd, true, by rw [hl2]; rfl, _, e1, ?_, ?_, fun c u n e => by rw [upd_ne n]; exact e2 c u n e⟩
        · rw [List.length_map, List.length_replicate]
          exact small1000 (by omega)
        · rw [upd_same, List.replicate_succ', List.map_append]
          rfl
      · rintro H2 ⟨e1, e2⟩
        have s2 : Same HL H2 := fun c o e => e2 c o (ne_of_none e nL) e
        have s3 := Same.lock u6S.b (by rw [hHL]; exact s2)
        refine ⟨s2 _ _ lL, L, List.replicate (bk bs).length false, rfl, SqL.of (by rw [upd_ne nLB.symm]; exact e1), _, rfl, ?_⟩
        have ea : (List.replicate (bk bs).length false).any id = false := by
          rw [List.any_eq_false]
          intro x hx
          rw [(List.mem_replicate.mp hx).2]
          exact Bool.false_ne_true
        rw [ea]
        show if false = true then _ else _
        rw [if_neg Bool.false_ne_true]
        have u7S := u6S.same s3
        have u7A := u6A.same s3
        have u7D := u6D.same s3
        have u7t := tab_sm u6t s3
        clear u6S u6A u6D u6t s2 s3 lT lA lL lO hHL e1 e2 nL nLB ea
        generalize (upd H2 B (.dK (bk bs))) = H8 at u7S u7A u7D u7t ⊢
        -- sheet.kinds().append("a"), ..
        obtain ⟨dx8, ox8⟩ := u7A.ob
        refine ⟨_, rfl, SH, dx8, _, rfl, ox8, flds_no _ _ _ (by decide +kernel) (by decide +kernel) (by decide +kernel), SH, pp, bp, np, pl ps, bl bs, rfl, u7A, fun L1 ks pe so nl => ?_⟩
        refine ⟨.inl ⟨rfl, _, SqL.of upd_same⟩, L1, _, _, rfl, rfl, upd_same, ?_, ?_⟩
        · have := pe.length_eq
          rw [List.length_map] at this ⊢
          have hp : (pl ps).length = ps.length := List.length_map ..
          exact small1000 (by omega)
        rw [upd_upd]
        have s9 : Same H8 (upd H8 L1 (HO.lst (ks.map V.str ++ [V.str "a"]))) := same_upd nl
        have e9 : (upd H8 L1 (HO.lst (ks.map V.str ++ [V.str "a"]))) L1 = some (HO.lst (ks.map V.str ++ [V.str "a"])) := upd_same
        generalize (upd H8 L1 (HO.lst (ks.map V.str ++ [V.str "a"]))) = H9 at s9 e9 ⊢
        have u8A := u7A.same s9
        obtain ⟨dx9, ox9⟩ := u8A.ob
        refine ⟨_, rfl, SH, dx9, _, rfl, ox9, flds_no _ _ _ (by decide +kernel) (by decide +kernel) (by decide +kernel), SH, pp, bp, np, pl ps, bl bs, rfl, u8A, fun L2 ks2 pe2 so2 nl2 => ?_⟩
        refine ⟨.inl ⟨rfl, _, SqL.of upd_same⟩, L2, _, rfl, rfl, upd_same, ?_⟩
        rw [upd_upd]
        have s10 : Same H9 (upd H9 L2 (HO.lst [])) := same_upd nl2
        have e10 : (upd H9 L2 (HO.lst [])) L2 = some (HO.lst []) := upd_same
        generalize (upd H9 L2 (HO.lst [])) = H10 at s10 e10 ⊢
        have u9A := u8A.same s10
        have u9S := (u7S.same s9).same s10
        obtain ⟨dx10, ox10⟩ := u9A.ob
        refine ⟨_, rfl, SH, dx10, _, rfl, ox10, flds_no _ _ _ (by decide +kernel) (by decide +kernel) (by decide +kernel), SH, pp, bp, np, ps, bl bs, rfl, u9A, u9S.P.nd, by omega, fun L3 js H11 pe3 so3 nl3 e3 s11 => ?_⟩
        refine ⟨.inl ⟨rfl, _, SqL.of e3⟩, L3, _, rfl, rfl, e3, ?_⟩
        have s12 : Same H10 (upd H11 L3 (.lst [])) := fun b o e => by rw [upd_ne (ne_of_none e nl3)]; exact s11 _ _ e
        have w1S := u9S.same s12
        have w1A := u9A.same s12
        have w1D := ((u7D.same s9).same s10).same s12
        have w1t := tab_sm (tab_sm (tab_sm u7t s9) s10) s12
        clear u7S u7A u7D u7t u8A u9A u9S s9 s10 s11 s12 e9 e10 e3 nl nl2 nl3 pe pe2 pe3 so so2 so3 ox8 ox9 ox10
        generalize (upd H11 L3 (.lst [])) = H12 at w1S w1A w1D w1t ⊢
        obtain ⟨dxw1, oxw1⟩ := w1A.ob
        refine ⟨_, rfl, SH, dxw1, _, rfl, oxw1, flds_no _ _ _ (by decide +kernel) (by decide +kernel) (by decide +kernel), SH, pp, bp, np, pl ps, bl bs, rfl, w1A, fun L1w1 ksw1 pew1 sow1 nlw1 => ?_⟩
        have s1w1 : Same H12 (upd H12 L1w1 (HO.lst (ksw1.map V.str))) := same_upd nlw1
        have e1w1 : (upd H12 L1w1 (HO.lst (ksw1.map V.str))) L1w1 = some (HO.lst (ksw1.map V.str)) := upd_same
        generalize (upd H12 L1w1 (HO.lst (ksw1.map V.str))) = w11 at s1w1 e1w1 ⊢
        refine ⟨_, rfl, T, _, 1, _, rfl, rfl, SqL.of (s1w1 _ _ w1S.t), at_of (j := 1) rfl rfl, B, bk bs, bs.map (·.1), rfl, .inl (s1w1 _ _ w1S.b), by unfold bk; rw [List.map_map, List.map_map]; rfl, by rw [List.length_map]; omega, fun ysw1 L2w1 pfw1 sqw1 nmw1 => ?_⟩
        have ekw1 : ysw1 = ksw1 := sorted_one sqw1 sow1 (pfw1.trans (by rw [← bl_keys]; exact pew1.symm))
        subst ekw1
        have s2w1 : Same w11 (upd w11 L2w1 (HO.lst (ysw1.map V.str))) := same_upd nmw1
        have e2w1 : (upd w11 L2w1 (HO.lst (ysw1.map V.str))) L2w1 = some (HO.lst (ysw1.map V.str)) := upd_same
        generalize (upd w11 L2w1 (HO.lst (ysw1.map V.str))) = w12 at s2w1 e2w1 ⊢
        refine ne_lists (s2w1 _ _ e1w1) e2w1 (fun z hz => ?_) ⟨_, rfl, ?_⟩
        · have hz := pfw1.mem_iff.mp hz
          obtain ⟨p, hp, rfl⟩ := List.mem_map.mp hz
          exact w_ok (w1S.O.wd p hp)
        show if false = true then _ else _
        rw [if_neg Bool.false_ne_true]
        have w1S' := (w1S.same s1w1).same s2w1
        have w1A' := (w1A.same s1w1).same s2w1
        have w1D' := (w1D.same s1w1).same s2w1
        have w1t' := tab_sm (tab_sm w1t s1w1) s2w1
        have w2S := w1S'
        have w2A := w1A'
        have w2D := w1D'
        have w2t := w1t'
        clear w1S w1A w1D w1t w1S' w1A' w1D' w1t' s1w1 s2w1 e1w1 e2w1 nmw1 nlw1 pew1 sow1 pfw1 sqw1 oxw1
        obtain ⟨dxw2, oxw2⟩ := w2A.ob
        refine ⟨_, rfl, SH, dxw2, _, rfl, oxw2, flds_no _ _ _ (by decide +kernel) (by decide +kernel) (by decide +kernel), SH, pp, bp, np, ps, bl bs, rfl, w2A, w2S.P.nd, by omega, fun L1w2 jsw2 w21 pew2 sow2 nlw2 e1w2 s1w2 => ?_⟩
        refine ⟨_, rfl, T, A, B, ps, rfl, s1w2 _ _ w2S.t, s1w2 _ _ w2S.a, w2S.P.nd, by omega, fun p hp => ⟨p.2, look_some w2S.P.nd hp⟩, fun L2w2 isw2 w22 pfw2 sqw2 nmw2 e2w2 s2w2 => ?_⟩
        have ekw2 : isw2 = jsw2 := sorted_one sqw2 sow2 (pfw2.trans pew2.symm)
        subst ekw2
        refine ne_lists (s2w2 _ _ e1w2) e2w2 (fun z hz => ?_) ⟨_, rfl, ?_⟩
        · have hz := pfw2.mem_iff.mp hz
          obtain ⟨p, hp, rfl⟩ := List.mem_map.mp hz
          exact w_ok (w2S.P.wd p (List.mem_filter.mp hp).1)
        show if false = true then _ else _
        rw [if_neg Bool.false_ne_true]
        have w2S' := (w2S.same s1w2).same s2w2
        have w2A' := (w2A.same s1w2).same s2w2
        have w2D' := (w2D.same s1w2).same s2w2
        have w2t' := tab_sm (tab_sm w2t s1w2) s2w2
        have w3S := w2S'
        have w3A := w2A'
        have w3D := w2D'
        have w3t := w2t'
        clear w2S w2A w2D w2t w2S' w2A' w2D' w2t' s1w2 s2w2 e1w2 e2w2 nmw2 nlw2 pew2 sow2 pfw2 sqw2 oxw2
        -- for pair in _law_spoilt(..)
        refine ⟨_, rfl, _, rfl, T, _, 0, _, rfl, rfl, SqL.of w3S.t, at_of (j := 0) rfl rfl, _, rfl, T, _, 1, _, rfl, rfl, SqL.of w3S.t, at_of (j := 1) rfl rfl, ?_⟩
        refine ⟨d, sc, T, A, B, ps, bs, rfl, w3D, w3S, nTd, nq, fun R xs H13 nR eR lenR bad D13 kp => ?_⟩
        have y1S := (w3S.kp w3D nTd kp).noT
        have y1A := (w3A.kp w3D kp).noT
        have y1D := D13.noT
        have y1t := tab_kp w3t w3D kp
        have y1R : noT H13 R = some (.lst (xs.map V.ref)) := noT_eq eR (by intro ps z; cases z)
        have y1B : ∀ p ∈ xs, ∃ x y, noT H13 p = some (.lst [x, y]) ∧ Bad P w (noT H13) x y := fun p hp => by
          obtain ⟨x, y, e, b⟩ := bad p hp
          exact ⟨x, y, noT_eq e (by intro ps z; cases z), b.noT⟩
        clear w3S w3A w3D w3t D13 kp bad
        refine ⟨R, rfl, ⟨_, SqL.of eR⟩, ?_⟩
        refine for_list (K := K) (a := R) (xs := xs.map V.ref) (fun i σ H' => (∃ v9, σ = [some (.ref a), some (.ref d), some (.ref T), some (.ref PA), some (.ref PB), none, v6, none, none, v9, some (.ref SH), none]) ∧ Same (noT H13) H' ∧ LamX.TabS H' Pt qn) ⟨⟨_, rfl⟩, noT_sub, y1t⟩ (fun i σ H' _ q => SqL.of (q.2.1 _ _ y1R)) ?_ ?_
        · rintro i x σ H' hx ⟨⟨v9, rfl⟩, s1, t1⟩
          rw [List.getElem?_map] at hx
          cases hj : xs[i]? with
          | none => rw [hj] at hx; cases hx
          | some p =>
            rw [hj] at hx
            have ex : x = V.ref p := (Option.some.inj hx).symm
            subst ex
            obtain ⟨x, y, ep, bp'⟩ := y1B p (List.mem_of_getElem? hj)
            refine ⟨fun q hq => by rw [List.mem_singleton.mp hq]; exact t1, fun Hx eN tN => ?_⟩
            have s2 := noT_ext s1 eN
            refine ⟨_, rfl, p, _, 0, _, rfl, rfl, SqL.of (s2 _ _ ep), at_of (j := 0) rfl rfl, _, rfl, p, _, 1, _, rfl, rfl, SqL.of (s2 _ _ ep), at_of (j := 1) rfl rfl, fun X dx nX ndx nd => ?_⟩
            have s3 : Same Hx (upd (upd Hx dx (.own X)) X (.ins C dx [])) := fun b o e => by rw [upd_ne (ne_of_none e nX), upd_ne (ne_of_none e ndx)]; exact e
            refine bad_init upd_same ((bp'.same s2).same s3) (fun H'' s4 => ?_)
            refine ⟨rfl, .inl ⟨rfl, rfl, false, by simp, ?_⟩⟩
            show if false = true then _ else _
            rw [if_neg Bool.false_ne_true]
            exact ⟨⟨_, rfl⟩, (s2.trans s3).trans s4, tab_sm (tN (Pt, qn) (List.mem_singleton.mpr rfl)) (s3.trans s4)⟩
        · rintro σ H' ⟨⟨v9, rfl⟩, s1, t1⟩
          have z1S := y1S.same s1
          have z1A := y1A.same s1
          have z1D := y1D.same s1
          have z1t := t1
          clear y1S y1A y1D y1t y1R y1B s1 t1 eR nR lenR
          -- wrong
          refine ⟨_, rfl, sz2 (n := 1) (by decide), fun t1 nt1 => ?_⟩
          have g1 : Same H' (upd H' t1 (HO.tup [V.str "a"])) := same_upd nt1
          have f1 : (upd H' t1 (HO.tup [V.str "a"])) t1 = some (HO.tup [V.str "a"]) := upd_same
          generalize (upd H' t1 (HO.tup [V.str "a"])) = G1 at g1 f1 ⊢
          refine ⟨sz2 (n := 1) (by decide), fun u1 nu1 => ?_⟩
          have g2 : Same G1 (upd G1 u1 (HO.lst [V.int 1])) := same_upd nu1
          have f2 : (upd G1 u1 (HO.lst [V.int 1])) u1 = some (HO.lst [V.int 1]) := upd_same
          generalize (upd G1 u1 (HO.lst [V.int 1])) = G2 at g2 f2 ⊢
          refine ⟨sz2 (n := 6) (by decide), fun L nL => ?_⟩
          have g3 : Same G2 (upd G2 L (HO.lst [V.non, V.str "", V.int 1, V.str "A", V.ref t1, V.ref u1])) := same_upd nL
          have f3 : (upd G2 L (HO.lst [V.non, V.str "", V.int 1, V.str "A", V.ref t1, V.ref u1])) L = some (HO.lst [V.non, V.str "", V.int 1, V.str "A", V.ref t1, V.ref u1]) := upd_same
          generalize (upd G2 L (HO.lst [V.non, V.str "", V.int 1, V.str "A", V.ref t1, V.ref u1])) = G3 at g3 f3 ⊢
          have DD := ((z1D.same g1).same g2).same g3
          have nt1d := z1D.nd nt1
          have nu1d := (z1D.same g1).nd nu1
          have nLd := ((z1D.same g1).same g2).nd nL
          refine ⟨d, sc, L, _, rfl, DD, SqL.of f3, nLd, by show 0 < 6; decide, fun j v H14 hv D14 kp => ?_⟩
          obtain ⟨kd, hkd, hkn⟩ := vals4 (H := H14) (kp _ _ nt1d (g3 _ _ (g2 _ _ f1))) (kp _ _ nu1d (g3 _ _ f2)) v (List.mem_of_getElem? hv)
          have hkd := hkd.noT
          have q1S := ((((z1S.same g1).same g2).same g3).kp DD nTd kp).noT
          have q1A := ((((z1A.same g1).same g2).same g3).kp DD kp).noT
          have q1t := tab_kp (tab_sm (tab_sm (tab_sm z1t g1) g2) g3) DD kp
          have nk : ∀ z, kd = .str z → z ∉ (pl ps).map (·.1) := fun z ez hz => by
            rw [pl_keys] at hz
            obtain ⟨p, hp, e⟩ := List.mem_map.mp hz
            exact w_ne (q1S.P.wd p hp) (hkn z ez) e
          have nb : ∀ z, kd = .str z → z ∉ (bl bs).map (·.1) := fun z ez hz => by
            rw [bl_keys] at hz
            obtain ⟨p, hp, e⟩ := List.mem_map.mp hz
            exact w_ne (q1S.O.wd p hp) (hkn z ez) e
          have nd1 : ((pl ps).map (·.1)).Nodup := by rw [pl_keys]; exact q1S.P.nd
          have nd2 : ((bl bs).map (·.1)).Nodup := by rw [bl_keys]; exact q1S.O.nd
          clear z1S z1A z1D z1t DD g1 g2 g3 f1 f2 f3 nt1 nu1 nL nt1d nu1d nLd hv D14 kp
          refine ⟨fun q hq => by rw [List.mem_singleton.mp hq]; exact q1t, fun X1 eNX1 tNX1 => ?_⟩
          have sX1 := noT_ext noT_sub eNX1
          have AX1 := q1A.same sX1
          obtain ⟨dxX1, oxX1⟩ := AX1.ob
          refine ⟨_, rfl, SH, dxX1, _, rfl, oxX1, flds_no _ _ _ (by decide +kernel) (by decide +kernel) (by decide +kernel), _, rfl, SH, pp, bp, np, pl ps, bl bs, v, kd, rfl, AX1, hkd.same sX1, nd1, .inr ⟨fun z ez => look_none (nk z ez), ?_⟩⟩
          refine ⟨rfl, .inr (.inr ⟨rfl, rfl, false, by simp, ?_⟩)⟩
          show if false = true then _ else _
          rw [if_neg Bool.false_ne_true]
          have tX1 := tNX1 (Pt, qn) (List.mem_singleton.mpr rfl)
          refine ⟨fun q hq => by rw [List.mem_singleton.mp hq]; exact tX1, fun X2 eNX2 tNX2 => ?_⟩
          have sX2 := noT_ext sX1 eNX2
          have AX2 := q1A.same sX2
          obtain ⟨dxX2, oxX2⟩ := AX2.ob
          refine ⟨_, rfl, SH, dxX2, _, rfl, oxX2, flds_no _ _ _ (by decide +kernel) (by decide +kernel) (by decide +kernel), _, rfl, SH, pp, bp, np, pl ps, bl bs, v, kd, rfl, AX2, hkd.same sX2, nd1, .inr ⟨fun z ez => look_none (nk z ez), ?_⟩⟩
          refine ⟨rfl, .inr (.inr ⟨rfl, rfl, false, by simp, ?_⟩)⟩
          show if false = true then _ else _
          rw [if_neg Bool.false_ne_true]
          have tX2 := tNX2 (Pt, qn) (List.mem_singleton.mpr rfl)
          refine ⟨fun q hq => by rw [List.mem_singleton.mp hq]; exact tX2, fun X3 eNX3 tNX3 => ?_⟩
          have sX3 := noT_ext sX2 eNX3
          have AX3 := q1A.same sX3
          obtain ⟨dxX3, oxX3⟩ := AX3.ob
          refine ⟨_, rfl, SH, dxX3, _, rfl, oxX3, flds_no _ _ _ (by decide +kernel) (by decide +kernel) (by decide +kernel), _, rfl, SH, pp, bp, np, pl ps, bl bs, v, kd, rfl, AX3, hkd.same sX3, nd2, .inr ⟨fun z ez => look_none (nb z ez), ?_⟩⟩
          refine ⟨rfl, .inr (.inl ⟨rfl, rfl, false, by simp, ?_⟩)⟩
          show if false = true then _ else _
          rw [if_neg Bool.false_ne_true]
          have tX3 := tNX3 (Pt, qn) (List.mem_singleton.mpr rfl)
          have r1S := q1S.same sX3
          have r1A := q1A.same sX3
          clear q1S q1A q1t sX1 sX2 sX3 eNX1 eNX2 eNX3 tNX1 tNX2 tNX3 tX1 tX2 tX3 AX1 AX2 AX3 oxX1 oxX2 oxX3 hkd hkn nk nb
          -- turned
          intro TU nTU
          have sY1 : Same X3 (upd X3 TU (HO.dK [])) := same_upd nTU
          have eY1 : (upd X3 TU (HO.dK [])) TU = some (HO.dK []) := upd_same
          generalize (upd X3 TU (HO.dK [])) = Y1 at sY1 eY1 ⊢
          have u1S := r1S.same sY1
          refine ⟨_, rfl, T, _, 1, _, rfl, rfl, SqL.of u1S.t, at_of (j := 1) rfl rfl, B, bk bs, bs.map (·.1), rfl, .inl u1S.b, by unfold bk; rw [List.map_map, List.map_map]; rfl, by rw [List.length_map]; omega, fun ys L2 pf sq nm => ?_⟩
          have sY2 : Same Y1 (upd Y1 L2 (HO.lst (ys.map V.str))) := same_upd nm
          have eY2 : (upd Y1 L2 (HO.lst (ys.map V.str))) L2 = some (HO.lst (ys.map V.str)) := upd_same
          generalize (upd Y1 L2 (HO.lst (ys.map V.str))) = Y2 at sY2 eY2 ⊢
          refine ⟨L2, _, rfl, SqL.of eY2, fun R2 nR2 => ?_⟩
          rw [← List.map_reverse]
          have sY3 : Same Y2 (upd Y2 R2 (HO.lst (ys.reverse.map V.str))) := same_upd nR2
          have eY3 : (upd Y2 R2 (HO.lst (ys.reverse.map V.str))) R2 = some (HO.lst (ys.reverse.map V.str)) := upd_same
          generalize (upd Y2 R2 (HO.lst (ys.reverse.map V.str))) = Y3 at sY3 eY3 ⊢
          have u3S := (u1S.same sY2).same sY3
          have u3A := ((r1A.same sY1).same sY2).same sY3
          have eTU := sY3 _ _ (sY2 _ _ eY1)
          have nTTU : T ≠ TU := ne_of u3S.t eTU (by intro z; cases z)
          have nRTU : R2 ≠ TU := ne_of eY3 eTU (by intro z; cases z)
          have nATU : A ≠ TU := ne_of_none r1S.a nTU
          have nBTU : B ≠ TU := ne_of_none r1S.b nTU
          have kTU : ∀ H', Kp TU Y3 H' → ShD H' T A B ps bs ∧ SheetAt C H' SH pp bp np (pl ps) (bl bs) := fun H' k => by
            refine ⟨⟨k _ _ nTTU u3S.t, k _ _ nATU u3S.a, k _ _ nBTU u3S.b, u3S.P, u3S.O.same fun b xs e => k _ _ (ne_of e eTU (by intro z; cases z)) e, u3S.p0, u3S.p8, u3S.b0, u3S.b8⟩, ?_⟩
            obtain ⟨⟨dx', g1⟩, ⟨l', g2, g3⟩, ⟨b', g4, g5, g6⟩⟩ := r1A
            have up : ∀ b o, X3 b = some o → H' b = some o := fun b o e => k b o (ne_of_none e nTU) (sY3 _ _ (sY2 _ _ (sY1 _ _ e)))
            exact ⟨⟨dx', up _ _ g1⟩, ⟨l', up _ _ g2, g3⟩, ⟨b', up _ _ g4, g5, up _ _ g6⟩⟩
          have zn : ys.reverse.Nodup := (List.reverse_perm ys).nodup_iff.mpr (pf.nodup_iff.mpr u3S.O.nd)
          have zm : ∀ z ∈ ys.reverse, z ∈ bs.map (·.1) := fun z hz => pf.mem_iff.mp (List.mem_reverse.mp hz)
          have zl : ys.reverse.length = bs.length := by rw [List.length_reverse, pf.length_eq, List.length_map]
          clear u1S sY1 sY2 eY1 eY2 sY3 nm nR2
          generalize ys.reverse = zs at eY3 zn zm zl ⊢
          refine ⟨R2, rfl, ⟨_, SqL.of eY3⟩, ?_⟩
          refine for_list (K := K) (a := R2) (xs := zs.map V.str) (fun i σ H' => (∃ v5, σ = [some (.ref a), some (.ref d), some (.ref T), some (.ref PA), some (.ref PB), v5, v6, some (.ref TU), none, v9, some (.ref SH), some v]) ∧ H' TU = some (.dK (bk (turnB bs (zs.take i)))) ∧ Kp TU Y3 H')
            ⟨⟨_, rfl⟩, eTU, Kp.refl⟩ (fun i σ H' _ q => SqL.of (q.2.2 _ _ nRTU eY3)) ?_ ?_
          · rintro i x σ H' hx ⟨⟨v5, rfl⟩, hT, k⟩
            rw [List.getElem?_map] at hx
            cases hj : zs[i]? with
            | none => rw [hj] at hx; cases hx
            | some y =>
              rw [hj] at hx
              have ex : x = V.str y := (Option.some.inj hx).symm
              subst ex
              have hi : i < zs.length := (List.getElem?_eq_some_iff.mp hj).1
              obtain ⟨hS', _⟩ := kTU H' k
              obtain ⟨p, hp, rfl⟩ := List.mem_map.mp (zm y (List.mem_of_getElem? hj))
              have hl := look_some u3S.O.nd hp
              have nky := nd_take zn hj
              refine ⟨_, rfl, T, _, 1, _, rfl, rfl, SqL.of hS'.t, at_of (j := 1) rfl rfl, _, rfl, B, .ref p.2, rfl, .inl ⟨_, Sum.inr p.1, .inl hS'.b, rfl, by unfold bk; rw [valV_map, hl]; rfl⟩, ?_⟩
              refine ⟨_, rfl, _, rfl, TU, _, rfl, DPut.k (k := Sum.inr p.1) hT (by unfold bk; rw [List.length_map]; unfold turnB; rw [List.length_map, List.length_take]; exact small1000 (by omega)), ⟨_, rfl⟩, ?_, k.trans Kp.upd⟩
              have et : turnB bs (zs.take i ++ [p.1]) = turnB bs (zs.take i) ++ [(p.1, p.2)] := by
                unfold turnB
                rw [List.map_append]
                show _ ++ [(p.1, (K1.look bs p.1).getD 0)] = _
                rw [hl]
                rfl
              have e2 : zs.take (i + 1) = zs.take i ++ [p.1] := by rw [List.take_add_one, hj]; rfl
              rw [upd_same, e2, et]
              unfold bk
              rw [put_map V.ref p.2 (by rw [turnB_keys]; exact nky)]
          rintro σ H' ⟨⟨v5, rfl⟩, hT, k⟩
          rw [List.length_map, List.take_length] at hT
          obtain ⟨s1S, s1A⟩ := kTU H' k
          have tO := turnB_ok s1S.O zn zm
          have tlen : (turnB bs zs).length = bs.length := by unfold turnB; rw [List.length_map, zl]
          clear kTU k eTU eY3 u3S u3A
          -- name, less
          refine ⟨_, rfl, T, _, 1, _, rfl, rfl, SqL.of s1S.t, at_of (j := 1) rfl rfl, B, bk bs, bs.map (·.1), rfl, .inl s1S.b, by unfold bk; rw [List.map_map, List.map_map]; rfl, by rw [List.length_map]; omega, fun ys2 L4 pf2 sq2 nm2 => ?_⟩
          have sZ1 : Same H' (upd H' L4 (HO.lst (ys2.map V.str))) := same_upd nm2
          have eZ1 : (upd H' L4 (HO.lst (ys2.map V.str))) L4 = some (HO.lst (ys2.map V.str)) := upd_same
          generalize (upd H' L4 (HO.lst (ys2.map V.str))) = Z1 at sZ1 eZ1 ⊢
          obtain ⟨nm, hnm, ey⟩ : ∃ nm, nm ∈ bs.map (·.1) ∧ ys2[0]? = some nm := by
            cases ys2 with
            | nil =>
              have := pf2.length_eq
              rw [List.length_map] at this
              exact absurd (List.eq_nil_of_length_eq_zero this.symm) s1S.b0
            | cons y r => exact ⟨y, pf2.mem_iff.mp List.mem_cons_self, rfl⟩
          refine ⟨L4, _, 0, _, rfl, rfl, SqL.of eZ1, at_of (j := 0) rfl (by rw [List.getElem?_map, ey]; rfl), ?_⟩
          have s2S := s1S.same sZ1
          refine ⟨_, rfl, T, _, 1, _, rfl, rfl, SqL.of s2S.t, at_of (j := 1) rfl rfl, B, bk bs, rfl, .inl s2S.b, fun LE nLE => ?_⟩
          have hLE : (upd Z1 LE (.dK (bk bs))) LE = some (.dK (bk bs)) := upd_same
          have nLT : LE ≠ TU := (ne_of_none (sZ1 _ _ hT) nLE).symm
          have nLA : LE ≠ A := (ne_of_none s2S.a nLE).symm
          obtain ⟨pn, hpn, epn⟩ := List.mem_map.mp hnm
          have hln := look_some s2S.O.nd hpn
          rw [epn] at hln
          refine ⟨_, rfl, LE, rfl, .inl ⟨_, .inl hLE⟩, _, rfl, bk bs, Sum.inr nm, .ref pn.2, hLE, rfl, by unfold bk; rw [valV_map, hln]; rfl, ?_⟩
          rw [upd_upd, bk_drop]
          have sZ2 : Same Z1 (upd Z1 LE (HO.dK (bk (bs.filter fun p => decide (p.1 ≠ nm))))) := same_upd nLE
          have eZ2 : (upd Z1 LE (HO.dK (bk (bs.filter fun p => decide (p.1 ≠ nm))))) LE = some (HO.dK (bk (bs.filter fun p => decide (p.1 ≠ nm)))) := upd_same
          generalize (upd Z1 LE (HO.dK (bk (bs.filter fun p => decide (p.1 ≠ nm))))) = Z2 at sZ2 eZ2 ⊢
          have s3S := s2S.same sZ2
          have s3A := (s1A.same sZ1).same sZ2
          have hT3 := sZ2 _ _ (sZ1 _ _ hT)
          have lO := s3S.O.sub nm
          have lS := filter_short hnm
          have nTUA : TU ≠ A := nATU.symm
          have tO3 : BlkOk Z2 ps (turnB bs zs) := tO.same fun b xs e => sZ2 _ _ (sZ1 _ _ e)
          clear tO s1S s2S s1A sZ1 sZ2 hT eZ1 hLE nm2 pf2 sq2
          -- the three sheets
          have mm1 : ((pl ps).map (·.1)).Nodup := by rw [pl_keys]; exact s3S.P.nd
          have mm2 : ((bl bs).map (·.1)).Nodup := by rw [bl_keys]; exact s3S.O.nd
          have mm3 : ((bl (turnB bs zs)).map (·.1)).Nodup := by rw [bl_keys]; exact tO3.nd
          have mm4 : ((bl (bs.filter fun p => decide (p.1 ≠ nm))).map (·.1)).Nodup := by rw [bl_keys]; exact lO.nd
          have l2 : (bl bs).length = bs.length := List.length_map ..
          have l3 : (bl (turnB bs zs)).length = (turnB bs zs).length := List.length_map ..
          have l4 : (bl (bs.filter fun p => decide (p.1 ≠ nm))).length = (bs.filter fun p => decide (p.1 ≠ nm)).length := List.length_map ..
          have hb1 : 0 < bs.length := List.length_pos_iff.mpr s3S.b0
          have vt : ∀ x ∈ bl (turnB bs zs), K1.look (bl bs) x.1 = some x.2 := fun x hx => by
            unfold bl at hx
            obtain ⟨p, hp, rfl⟩ := List.mem_map.mp hx
            have hq := turnB_mem s3S.O.nd zm hp
            show K1.look (bl bs) p.1 = some (.ref p.2)
            rw [look_bl, look_some s3S.O.nd hq]
            rfl
          refine ⟨_, rfl, T, _, 0, _, rfl, rfl, SqL.of s3S.t, at_of (j := 0) rfl rfl, _, rfl, fun P3 x3 nP3 nx3 nd3 => ?_⟩
          have w3 : Same Z2 (upd (upd Z2 x3 (.own P3)) P3 (.ins C x3 [])) := fun b o e => by rw [upd_ne (ne_of_none e nP3), upd_ne (ne_of_none e nx3)]; exact e
          refine init_ok upd_same (w3 _ _ s3S.a) (w3 _ _ hT3) s3S.P s3S.p0 s3S.p8 (tO3.same fun b xs e => w3 _ _ e) (by omega) nTUA (fun pp3 bp3 np3 I3 hS3 k3 => ⟨rfl, ?_⟩)
          have v3 : Same Z2 I3 := fun b o e => k3 b o (ne_of_none e nP3) (w3 _ _ e)
          have c3S := s3S.same v3
          have c3A := s3A.same v3
          obtain ⟨da3, oa3⟩ := hS3.ob
          obtain ⟨db3, ob3⟩ := c3A.ob
          refine ⟨_, rfl, P3, SH, da3, db3, _, _, rfl, rfl, oa3, ob3, P3, SH, pp3, bp3, np3, pp, bp, np, pl ps, bl (turnB bs zs), bl bs, rfl, hS3, c3A, mm1, mm3, mm2, flat_pl ps, flat_bl _, .inl ⟨by omega, vt, true, rfl, true, rfl, ?_⟩⟩
          show if true = true then _ else _
          rw [if_pos rfl]
          have s4S := c3S
          have s4A := c3A
          have lO4 := lO.same fun b xs e => v3 _ _ e
          have eLE := v3 _ _ eZ2
          refine ⟨_, rfl, T, _, 0, _, rfl, rfl, SqL.of s4S.t, at_of (j := 0) rfl rfl, _, rfl, fun P4 x4 nP4 nx4 nd4 => ?_⟩
          have w4 : Same I3 (upd (upd I3 x4 (.own P4)) P4 (.ins C x4 [])) := fun b o e => by rw [upd_ne (ne_of_none e nP4), upd_ne (ne_of_none e nx4)]; exact e
          refine init_ok upd_same (w4 _ _ s4S.a) (w4 _ _ eLE) s4S.P s4S.p0 s4S.p8 (lO4.same fun b xs e => w4 _ _ e) (by omega) nLA (fun pp4 bp4 np4 I4 hS4 k4 => ⟨rfl, ?_⟩)
          have v4 : Same I3 I4 := fun b o e => k4 b o (ne_of_none e nP4) (w4 _ _ e)
          have c4S := s4S.same v4
          have c4A := s4A.same v4
          obtain ⟨da4, oa4⟩ := hS4.ob
          obtain ⟨db4, ob4⟩ := c4A.ob
          refine ⟨_, rfl, P4, SH, da4, db4, _, _, rfl, rfl, oa4, ob4, P4, SH, pp4, bp4, np4, pp, bp, np, pl ps, bl (bs.filter fun p => decide (p.1 ≠ nm)), bl bs, rfl, hS4, c4A, mm1, mm4, mm2, flat_pl ps, flat_bl _, .inr ⟨by omega, false, rfl, true, rfl, ?_⟩⟩
          show if true = true then _ else _
          rw [if_pos rfl]
          refine ⟨_, rfl, T, _, 0, _, rfl, rfl, SqL.of c4S.t, at_of (j := 0) rfl rfl, fun E0 nE0 => ?_⟩
          have v5' : Same I4 (upd I4 E0 (HO.dK [])) := same_upd nE0
          have e5' : (upd I4 E0 (HO.dK [])) E0 = some (HO.dK []) := upd_same
          generalize (upd I4 E0 (HO.dK [])) = J5 at v5' e5' ⊢
          have s5S := c4S.same v5'
          have s5A := c4A.same v5'
          have nEA : E0 ≠ A := (ne_of_none c4S.a nE0).symm
          have nO : BlkOk J5 ps [] := ⟨List.nodup_nil, (fun p hp => nomatch hp), (fun p hp => nomatch hp)⟩
          intro P5 x5 nP5 nx5 nd5
          have w5 : Same J5 (upd (upd J5 x5 (.own P5)) P5 (.ins C x5 [])) := fun b o e => by rw [upd_ne (ne_of_none e nP5), upd_ne (ne_of_none e nx5)]; exact e
          refine init_ok (bs := []) upd_same (w5 _ _ s5S.a) (w5 _ _ e5') s5S.P s5S.p0 s5S.p8 (nO.same fun b xs e => w5 _ _ e) (by show 0 ≤ 8; decide) nEA (fun pp5 bp5 np5 I5 hS5 k5 => ⟨rfl, ?_⟩)
          have v5 : Same J5 I5 := fun b o e => k5 b o (ne_of_none e nP5) (w5 _ _ e)
          have c5S := s5S.same v5
          have c5A := s5A.same v5
          obtain ⟨da5, oa5⟩ := hS5.ob
          obtain ⟨db5, ob5⟩ := c5A.ob
          refine ⟨_, rfl, P5, SH, da5, db5, _, _, rfl, rfl, oa5, ob5, P5, SH, pp5, bp5, np5, pp, bp, np, pl ps, bl [], bl bs, rfl, hS5, c5A, mm1, List.nodup_nil, mm2, flat_pl ps, flat_bl _, .inr ⟨by show 0 ≠ _; omega, false, rfl, ?_⟩⟩
          exact q _
end
end K1

set_option Elab.async false
set_option linter.all false
set_option maxRecDepth 100000
set_option maxHeartbeats 4000000
namespace K1
open PySem PySem.Spec PyProof.Rows L2
theorem cls_two {K : PySem.W.Frag} {a b : Addr} {r : Bool} (h2 : PySem.W.isClsIn K b = true) (h3 : PySem.W.typeIn K (.ref b) = some (.type "type")) (h4 : PySem.W.subIn K (.ref a) (.ref b) = some r) : PySem.W.kitCls K (.ref a) (.ref b) = some r := by
  have e2 : ((PySem.W.clsIn K b).isSome && PySem.W.typeIn K (.ref b) == some (.type "type")) = true := by
    have h2' : (PySem.W.clsIn K b).isSome = true := h2
    rw [h2', h3] <;> rfl
  show (if ((PySem.W.clsIn K b).isSome && PySem.W.typeIn K (.ref b) == some (.type "type")) = true then PySem.W.subIn K (.ref a) (.ref b) else none) = some r
  rw [if_pos e2]
  exact h4
theorem exm_two {K : PySem.W.Frag} {a b : Addr} {r : Bool} (h1 : PySem.W.subIn K (.ref b) (.type "BaseException") = some true) (h2 : PySem.W.isClsIn K b = true) (h3 : PySem.W.typeIn K (.ref b) = some (.type "type")) (h4 : PySem.W.subIn K (.ref a) (.ref b) = some r) : PySem.W.exmOne K (.ref a) (.ref b) = some r := by
  have e1 : (PySem.W.subIn K (.ref b) (.type "BaseException") == some true) = true := by rw [h1] <;> rfl
  unfold PySem.W.exmOne
  rw [if_pos e1]
  exact cls_two h2 h3 h4
theorem kit_two {K : PySem.W.Frag} {a b : Addr} (h2 : PySem.W.isClsIn K b = true) (h3 : PySem.W.typeIn K (.ref b) = some (.type "type")) (h4 : PySem.W.subIn K (.ref a) (.ref b) = some true) : PySem.W.kitOne K (.ref a) (.ref b) = some true := by
  unfold PySem.W.kitOne
  by_cases h : ((Value.ref a == Value.ref b) = true)
  · rw [if_pos h]
  · rw [if_neg h]
    exact cls_two h2 h3 h4
theorem all_mk {l : PySem.W.OpenLaw} {w : World} {K : PySem.W.Frag} {h : Heap} {mg : Str → Option Value} {fa f_let f_wrd f_apt f_aen f_abk f_cel f_drw f_num f_nxt f_pik f_lwd f_voc f_par f_blo f_sht f_ljo f_ljs f_err f_spo f_law C f_ini f_knd f_nam f_jts f_ptr f_jnt f_end f_len f_con f_itr f_equ CB CN CK CE cc Pt : Addr} (X : K.In h) (G : h.Ns mainGlobals mg) (hfa : mg "law" = some (.ref fa)) (own : LamX.OwnTab K fa h)
    {od_let an_let od_wrd an_wrd od_apt an_apt od_aen an_aen od_abk an_abk od_cel an_cel od_drw an_drw od_num an_num od_nxt an_nxt od_pik an_pik od_lwd an_lwd od_voc an_voc od_par an_par od_blo an_blo od_sht an_sht od_ljo an_ljo od_ljs an_ljs od_err an_err od_spo an_spo od_law an_law od_ini an_ini od_knd an_knd od_nam an_nam od_jts an_jts od_ptr an_ptr od_jnt an_jnt od_end an_end od_len an_len od_con an_con od_itr an_itr od_equ an_equ dcc : Option Addr} {sl_let sl_wrd sl_apt sl_aen sl_abk sl_cel sl_drw sl_num sl_nxt sl_pik sl_lwd sl_voc sl_par sl_blo sl_sht sl_ljo sl_ljs sl_err sl_spo sl_law sl_ini sl_knd sl_nam sl_jts sl_ptr sl_jnt sl_end sl_len sl_con sl_itr sl_equ slc : Array (Option Value)} {oc_let kV_let dc_let pm_let ct_let cd_let oc_wrd kV_wrd dc_wrd pm_wrd ct_wrd cd_wrd oc_apt kV_apt dc_apt pm_apt ct_apt cd_apt oc_aen kV_aen dc_aen pm_aen ct_aen cd_aen oc_abk kV_abk dc_abk pm_abk ct_abk cd_abk oc_cel kV_cel dc_cel pm_cel ct_cel cd_cel oc_drw kV_drw dc_drw pm_drw ct_drw cd_drw oc_num kV_num dc_num pm_num ct_num cd_num oc_nxt kV_nxt dc_nxt pm_nxt ct_nxt cd_nxt oc_pik kV_pik dc_pik pm_pik ct_pik cd_pik oc_lwd kV_lwd dc_lwd pm_lwd ct_lwd cd_lwd oc_voc kV_voc dc_voc pm_voc ct_voc cd_voc oc_par kV_par dc_par pm_par ct_par cd_par oc_blo kV_blo dc_blo pm_blo ct_blo cd_blo oc_sht kV_sht dc_sht pm_sht ct_sht cd_sht oc_ljo kV_ljo dc_ljo pm_ljo ct_ljo cd_ljo oc_ljs kV_ljs dc_ljs pm_ljs ct_ljs cd_ljs oc_err kV_err dc_err pm_err ct_err cd_err oc_spo kV_spo dc_spo pm_spo ct_spo cd_spo oc_law kV_law dc_law pm_law ct_law oc_ini kV_ini dc_ini pm_ini ct_ini cd_ini oc_knd kV_knd dc_knd pm_knd ct_knd cd_knd oc_nam kV_nam dc_nam pm_nam ct_nam cd_nam oc_jts kV_jts dc_jts pm_jts ct_jts cd_jts oc_ptr kV_ptr dc_ptr pm_ptr ct_ptr cd_ptr oc_jnt kV_jnt dc_jnt pm_jnt ct_jnt cd_jnt oc_end kV_end dc_end pm_end ct_end cd_end oc_len kV_len dc_len pm_len ct_len cd_len oc_con kV_con dc_con pm_con ct_con cd_con oc_itr kV_itr dc_itr pm_itr ct_itr cd_itr oc_equ kV_equ dc_equ pm_equ ct_equ cd_equ ec : Value} {vsc : Array Value} {t8 t4 : Tok}
    (a_let : PySem.W.nsIn K mainGlobals "is_letter" = some (some (.ref f_let)))
    (l_let : K.lookup f_let = some ⟨oc_let, od_let, .func (PySem.W.fnOf "is_letter" "is_letter" (defArgs sLetter) (defBody sLetter) (defScope sLetter) .none kV_let dc_let pm_let an_let cd_let ct_let), sl_let⟩)
    (c_let : PySem.W.codeIn K cd_let "is_letter" = true)
    (k_let : PySem.W.keepIn K (.ref f_let) = true)
    (a_wrd : PySem.W.nsIn K mainGlobals "is_word" = some (some (.ref f_wrd)))
    (l_wrd : K.lookup f_wrd = some ⟨oc_wrd, od_wrd, .func (PySem.W.fnOf "is_word" "is_word" (defArgs sIsWord) (defBody sIsWord) (defScope sIsWord) .none kV_wrd dc_wrd pm_wrd an_wrd cd_wrd ct_wrd), sl_wrd⟩)
    (c_wrd : PySem.W.codeIn K cd_wrd "is_word" = true)
    (k_wrd : PySem.W.keepIn K (.ref f_wrd) = true)
    (a_apt : PySem.W.nsIn K mainGlobals "_are_partners" = some (some (.ref f_apt)))
    (l_apt : K.lookup f_apt = some ⟨oc_apt, od_apt, .func (PySem.W.fnOf "_are_partners" "_are_partners" (defArgs sArePart) (defBody sArePart) (defScope sArePart) .none kV_apt dc_apt pm_apt an_apt cd_apt ct_apt), sl_apt⟩)
    (c_apt : PySem.W.codeIn K cd_apt "_are_partners" = true)
    (k_apt : PySem.W.keepIn K (.ref f_apt) = true)
    (a_aen : PySem.W.nsIn K mainGlobals "_are_ends" = some (some (.ref f_aen)))
    (l_aen : K.lookup f_aen = some ⟨oc_aen, od_aen, .func (PySem.W.fnOf "_are_ends" "_are_ends" (defArgs sAreEnds) (defBody sAreEnds) (defScope sAreEnds) .none kV_aen dc_aen pm_aen an_aen cd_aen ct_aen), sl_aen⟩)
    (c_aen : PySem.W.codeIn K cd_aen "_are_ends" = true)
    (k_aen : PySem.W.keepIn K (.ref f_aen) = true)
    (a_abk : PySem.W.nsIn K mainGlobals "_are_blocks" = some (some (.ref f_abk)))
    (l_abk : K.lookup f_abk = some ⟨oc_abk, od_abk, .func (PySem.W.fnOf "_are_blocks" "_are_blocks" (defArgs sAreBlocks) (defBody sAreBlocks) (defScope sAreBlocks) .none kV_abk dc_abk pm_abk an_abk cd_abk ct_abk), sl_abk⟩)
    (c_abk : PySem.W.codeIn K cd_abk "_are_blocks" = true)
    (k_abk : PySem.W.keepIn K (.ref f_abk) = true)
    (a_cel : PySem.W.nsIn K mainGlobals "_law_cell_at" = some (some (.ref f_cel)))
    (l_cel : K.lookup f_cel = some ⟨oc_cel, od_cel, .func (PySem.W.fnOf "_law_cell_at" "_law_cell_at" (defArgs sCell) (defBody sCell) (defScope sCell) .none kV_cel dc_cel pm_cel an_cel cd_cel ct_cel), sl_cel⟩)
    (c_cel : PySem.W.codeIn K cd_cel "_law_cell_at" = true)
    (k_cel : PySem.W.keepIn K (.ref f_cel) = true)
    (a_drw : PySem.W.nsIn K mainGlobals "_law_draw" = some (some (.ref f_drw)))
    (l_drw : K.lookup f_drw = some ⟨oc_drw, od_drw, .func (PySem.W.fnOf "_law_draw" "_law_draw" (defArgs sDraw) (defBody sDraw) (defScope sDraw) .none kV_drw dc_drw pm_drw an_drw cd_drw ct_drw), sl_drw⟩)
    (c_drw : PySem.W.codeIn K cd_drw "_law_draw" = true)
    (k_drw : PySem.W.keepIn K (.ref f_drw) = true)
    (a_num : PySem.W.nsIn K mainGlobals "_law_number" = some (some (.ref f_num)))
    (l_num : K.lookup f_num = some ⟨oc_num, od_num, .func (PySem.W.fnOf "_law_number" "_law_number" (defArgs sNumber) (defBody sNumber) (defScope sNumber) .none kV_num dc_num pm_num an_num cd_num ct_num), sl_num⟩)
    (c_num : PySem.W.codeIn K cd_num "_law_number" = true)
    (k_num : PySem.W.keepIn K (.ref f_num) = true)
    (a_nxt : PySem.W.nsIn K mainGlobals "_law_next" = some (some (.ref f_nxt)))
    (l_nxt : K.lookup f_nxt = some ⟨oc_nxt, od_nxt, .func (PySem.W.fnOf "_law_next" "_law_next" (defArgs sNext) (defBody sNext) (defScope sNext) .none kV_nxt dc_nxt pm_nxt an_nxt cd_nxt ct_nxt), sl_nxt⟩)
    (c_nxt : PySem.W.codeIn K cd_nxt "_law_next" = true)
    (k_nxt : PySem.W.keepIn K (.ref f_nxt) = true)
    (a_pik : PySem.W.nsIn K mainGlobals "_law_pick" = some (some (.ref f_pik)))
    (l_pik : K.lookup f_pik = some ⟨oc_pik, od_pik, .func (PySem.W.fnOf "_law_pick" "_law_pick" (defArgs sPick) (defBody sPick) (defScope sPick) .none kV_pik dc_pik pm_pik an_pik cd_pik ct_pik), sl_pik⟩)
    (c_pik : PySem.W.codeIn K cd_pik "_law_pick" = true)
    (k_pik : PySem.W.keepIn K (.ref f_pik) = true)
    (a_lwd : PySem.W.nsIn K mainGlobals "_law_word" = some (some (.ref f_lwd)))
    (l_lwd : K.lookup f_lwd = some ⟨oc_lwd, od_lwd, .func (PySem.W.fnOf "_law_word" "_law_word" (defArgs sWord) (defBody sWord) (defScope sWord) .none kV_lwd dc_lwd pm_lwd an_lwd cd_lwd ct_lwd), sl_lwd⟩)
    (c_lwd : PySem.W.codeIn K cd_lwd "_law_word" = true)
    (k_lwd : PySem.W.keepIn K (.ref f_lwd) = true)
    (a_voc : PySem.W.nsIn K mainGlobals "_law_vocab" = some (some (.ref f_voc)))
    (l_voc : K.lookup f_voc = some ⟨oc_voc, od_voc, .func (PySem.W.fnOf "_law_vocab" "_law_vocab" (defArgs sVocab) (defBody sVocab) (defScope sVocab) .none kV_voc dc_voc pm_voc an_voc cd_voc ct_voc), sl_voc⟩)
    (c_voc : PySem.W.codeIn K cd_voc "_law_vocab" = true)
    (k_voc : PySem.W.keepIn K (.ref f_voc) = true)
    (a_par : PySem.W.nsIn K mainGlobals "_law_partners" = some (some (.ref f_par)))
    (l_par : K.lookup f_par = some ⟨oc_par, od_par, .func (PySem.W.fnOf "_law_partners" "_law_partners" (defArgs sPartners) (defBody sPartners) (defScope sPartners) .none kV_par dc_par pm_par an_par cd_par ct_par), sl_par⟩)
    (c_par : PySem.W.codeIn K cd_par "_law_partners" = true)
    (k_par : PySem.W.keepIn K (.ref f_par) = true)
    (a_blo : PySem.W.nsIn K mainGlobals "_law_blocks" = some (some (.ref f_blo)))
    (l_blo : K.lookup f_blo = some ⟨oc_blo, od_blo, .func (PySem.W.fnOf "_law_blocks" "_law_blocks" (defArgs sBlocks) (defBody sBlocks) (defScope sBlocks) .none kV_blo dc_blo pm_blo an_blo cd_blo ct_blo), sl_blo⟩)
    (c_blo : PySem.W.codeIn K cd_blo "_law_blocks" = true)
    (k_blo : PySem.W.keepIn K (.ref f_blo) = true)
    (a_sht : PySem.W.nsIn K mainGlobals "_law_sheet" = some (some (.ref f_sht)))
    (l_sht : K.lookup f_sht = some ⟨oc_sht, od_sht, .func (PySem.W.fnOf "_law_sheet" "_law_sheet" (defArgs sSheet) (defBody sSheet) (defScope sSheet) .none kV_sht dc_sht pm_sht an_sht cd_sht ct_sht), sl_sht⟩)
    (c_sht : PySem.W.codeIn K cd_sht "_law_sheet" = true)
    (k_sht : PySem.W.keepIn K (.ref f_sht) = true)
    (a_ljo : PySem.W.nsIn K mainGlobals "_law_joint" = some (some (.ref f_ljo)))
    (l_ljo : K.lookup f_ljo = some ⟨oc_ljo, od_ljo, .func (PySem.W.fnOf "_law_joint" "_law_joint" (defArgs sLJoint) (defBody sLJoint) (defScope sLJoint) .none kV_ljo dc_ljo pm_ljo an_ljo cd_ljo ct_ljo), sl_ljo⟩)
    (c_ljo : PySem.W.codeIn K cd_ljo "_law_joint" = true)
    (k_ljo : PySem.W.keepIn K (.ref f_ljo) = true)
    (a_ljs : PySem.W.nsIn K mainGlobals "_law_joints" = some (some (.ref f_ljs)))
    (l_ljs : K.lookup f_ljs = some ⟨oc_ljs, od_ljs, .func (PySem.W.fnOf "_law_joints" "_law_joints" (defArgs sLJoints) (defBody sLJoints) (defScope sLJoints) .none kV_ljs dc_ljs pm_ljs an_ljs cd_ljs ct_ljs), sl_ljs⟩)
    (c_ljs : PySem.W.codeIn K cd_ljs "_law_joints" = true)
    (k_ljs : PySem.W.keepIn K (.ref f_ljs) = true)
    (a_err : PySem.W.nsIn K mainGlobals "_law_error" = some (some (.ref f_err)))
    (l_err : K.lookup f_err = some ⟨oc_err, od_err, .func (PySem.W.fnOf "_law_error" "_law_error" (defArgs sErr) (defBody sErr) (defScope sErr) .none kV_err dc_err pm_err an_err cd_err ct_err), sl_err⟩)
    (c_err : PySem.W.codeIn K cd_err "_law_error" = true)
    (k_err : PySem.W.keepIn K (.ref f_err) = true)
    (a_spo : PySem.W.nsIn K mainGlobals "_law_spoilt" = some (some (.ref f_spo)))
    (l_spo : K.lookup f_spo = some ⟨oc_spo, od_spo, .func (PySem.W.fnOf "_law_spoilt" "_law_spoilt" (defArgs sSpoilt) (defBody sSpoilt) (defScope sSpoilt) .none kV_spo dc_spo pm_spo an_spo cd_spo ct_spo), sl_spo⟩)
    (c_spo : PySem.W.codeIn K cd_spo "_law_spoilt" = true)
    (k_spo : PySem.W.keepIn K (.ref f_spo) = true)
    (a_law : PySem.W.nsIn K mainGlobals "law" = some (some (.ref f_law)))
    (l_law : K.lookup f_law = some ⟨oc_law, od_law, .func (PySem.W.fnOf "law" "law" (defArgs sLaw) (defBody sLaw) (defScope sLaw) .none kV_law dc_law pm_law an_law (.ref cc) ct_law), sl_law⟩)
    (c_law : PySem.W.codeIn K (.ref cc) "law" = true)
    (k_law : PySem.W.keepIn K (.ref f_law) = true)
    (aC : PySem.W.nsIn K mainGlobals "Sheet" = some (some (.ref C)))
    (a_ini : PySem.W.findIn K (.ref C) "__init__" = some (some (.ref f_ini)))
    (i_ini : PySem.W.isFn K (.ref f_ini) = true)
    (l_ini : K.lookup f_ini = some ⟨oc_ini, od_ini, .func (PySem.W.fnOf "__init__" "Sheet.__init__" (defArgs sInit) (defBody sInit) (defScope sInit) .none kV_ini dc_ini pm_ini an_ini cd_ini ct_ini), sl_ini⟩)
    (c_ini : PySem.W.codeIn K cd_ini "Sheet.__init__" = true)
    (k_ini : PySem.W.keepIn K (.ref f_ini) = true)
    (a_knd : PySem.W.findIn K (.ref C) "kinds" = some (some (.ref f_knd)))
    (i_knd : PySem.W.isFn K (.ref f_knd) = true)
    (l_knd : K.lookup f_knd = some ⟨oc_knd, od_knd, .func (PySem.W.fnOf "kinds" "Sheet.kinds" (defArgs sKinds) (defBody sKinds) (defScope sKinds) .none kV_knd dc_knd pm_knd an_knd cd_knd ct_knd), sl_knd⟩)
    (c_knd : PySem.W.codeIn K cd_knd "Sheet.kinds" = true)
    (k_knd : PySem.W.keepIn K (.ref f_knd) = true)
    (a_nam : PySem.W.findIn K (.ref C) "names" = some (some (.ref f_nam)))
    (i_nam : PySem.W.isFn K (.ref f_nam) = true)
    (l_nam : K.lookup f_nam = some ⟨oc_nam, od_nam, .func (PySem.W.fnOf "names" "Sheet.names" (defArgs sNames) (defBody sNames) (defScope sNames) .none kV_nam dc_nam pm_nam an_nam cd_nam ct_nam), sl_nam⟩)
    (c_nam : PySem.W.codeIn K cd_nam "Sheet.names" = true)
    (k_nam : PySem.W.keepIn K (.ref f_nam) = true)
    (a_jts : PySem.W.findIn K (.ref C) "joints" = some (some (.ref f_jts)))
    (i_jts : PySem.W.isFn K (.ref f_jts) = true)
    (l_jts : K.lookup f_jts = some ⟨oc_jts, od_jts, .func (PySem.W.fnOf "joints" "Sheet.joints" (defArgs sJoints) (defBody sJoints) (defScope sJoints) .none kV_jts dc_jts pm_jts an_jts cd_jts ct_jts), sl_jts⟩)
    (c_jts : PySem.W.codeIn K cd_jts "Sheet.joints" = true)
    (k_jts : PySem.W.keepIn K (.ref f_jts) = true)
    (a_ptr : PySem.W.findIn K (.ref C) "partner" = some (some (.ref f_ptr)))
    (i_ptr : PySem.W.isFn K (.ref f_ptr) = true)
    (l_ptr : K.lookup f_ptr = some ⟨oc_ptr, od_ptr, .func (PySem.W.fnOf "partner" "Sheet.partner" (defArgs sPartner) (defBody sPartner) (defScope sPartner) .none kV_ptr dc_ptr pm_ptr an_ptr cd_ptr ct_ptr), sl_ptr⟩)
    (c_ptr : PySem.W.codeIn K cd_ptr "Sheet.partner" = true)
    (k_ptr : PySem.W.keepIn K (.ref f_ptr) = true)
    (a_jnt : PySem.W.findIn K (.ref C) "joint" = some (some (.ref f_jnt)))
    (i_jnt : PySem.W.isFn K (.ref f_jnt) = true)
    (l_jnt : K.lookup f_jnt = some ⟨oc_jnt, od_jnt, .func (PySem.W.fnOf "joint" "Sheet.joint" (defArgs sJoint) (defBody sJoint) (defScope sJoint) .none kV_jnt dc_jnt pm_jnt an_jnt cd_jnt ct_jnt), sl_jnt⟩)
    (c_jnt : PySem.W.codeIn K cd_jnt "Sheet.joint" = true)
    (k_jnt : PySem.W.keepIn K (.ref f_jnt) = true)
    (a_end : PySem.W.findIn K (.ref C) "ends" = some (some (.ref f_end)))
    (i_end : PySem.W.isFn K (.ref f_end) = true)
    (l_end : K.lookup f_end = some ⟨oc_end, od_end, .func (PySem.W.fnOf "ends" "Sheet.ends" (defArgs sEnds) (defBody sEnds) (defScope sEnds) .none kV_end dc_end pm_end an_end cd_end ct_end), sl_end⟩)
    (c_end : PySem.W.codeIn K cd_end "Sheet.ends" = true)
    (k_end : PySem.W.keepIn K (.ref f_end) = true)
    (a_len : PySem.W.findIn K (.ref C) "__len__" = some (some (.ref f_len)))
    (i_len : PySem.W.isFn K (.ref f_len) = true)
    (l_len : K.lookup f_len = some ⟨oc_len, od_len, .func (PySem.W.fnOf "__len__" "Sheet.__len__" (defArgs sLen) (defBody sLen) (defScope sLen) .none kV_len dc_len pm_len an_len cd_len ct_len), sl_len⟩)
    (c_len : PySem.W.codeIn K cd_len "Sheet.__len__" = true)
    (k_len : PySem.W.keepIn K (.ref f_len) = true)
    (a_con : PySem.W.findIn K (.ref C) "__contains__" = some (some (.ref f_con)))
    (i_con : PySem.W.isFn K (.ref f_con) = true)
    (l_con : K.lookup f_con = some ⟨oc_con, od_con, .func (PySem.W.fnOf "__contains__" "Sheet.__contains__" (defArgs sCont) (defBody sCont) (defScope sCont) .none kV_con dc_con pm_con an_con cd_con ct_con), sl_con⟩)
    (c_con : PySem.W.codeIn K cd_con "Sheet.__contains__" = true)
    (k_con : PySem.W.keepIn K (.ref f_con) = true)
    (a_itr : PySem.W.findIn K (.ref C) "__iter__" = some (some (.ref f_itr)))
    (i_itr : PySem.W.isFn K (.ref f_itr) = true)
    (l_itr : K.lookup f_itr = some ⟨oc_itr, od_itr, .func (PySem.W.fnOf "__iter__" "Sheet.__iter__" (defArgs sIter) (defBody sIter) (defScope sIter) .none kV_itr dc_itr pm_itr an_itr cd_itr ct_itr), sl_itr⟩)
    (c_itr : PySem.W.codeIn K cd_itr "Sheet.__iter__" = true)
    (k_itr : PySem.W.keepIn K (.ref f_itr) = true)
    (a_equ : PySem.W.findIn K (.ref C) "__eq__" = some (some (.ref f_equ)))
    (i_equ : PySem.W.isFn K (.ref f_equ) = true)
    (l_equ : K.lookup f_equ = some ⟨oc_equ, od_equ, .func (PySem.W.fnOf "__eq__" "Sheet.__eq__" (defArgs sEq) (defBody sEq) (defScope sEq) .none kV_equ dc_equ pm_equ an_equ cd_equ ct_equ), sl_equ⟩)
    (c_equ : PySem.W.codeIn K cd_equ "Sheet.__eq__" = true)
    (k_equ : PySem.W.keepIn K (.ref f_equ) = true)
    (pg : PySem.W.plainGet K C Str.empty = true)
    (hd : PySem.W.hasDictIn K C = true)
    (po : PySem.W.plainOver K C = true)
    (sa : PySem.W.findIn K (.ref C) "__setattr__" = some (some (.builtin "object.__setattr__")))
    (nP : PySem.W.findIn K (.ref C) "_partners" = some none)
    (nB : PySem.W.findIn K (.ref C) "_blocks" = some none)
    (nN : PySem.W.findIn K (.ref C) "_names" = some none)
    (mkC : PySem.W.makesIn K C = true)
    (kc : PySem.W.keepIn K (.ref C) = true)
    (neC : PySem.W.findIn K (.ref C) "__ne__" = some (some (.builtin "object.__ne__")))
    (haC : PySem.W.findIn K (.ref C) "__class__" = some (some (.builtin "object.__class__")))
    (hnC : PySem.W.specialIn K (.builtin "object.__class__") "__get__" = some (some (.builtin "getset_descriptor.__get__")))
    (htC : PySem.W.takesIn K (.builtin "object.__class__") = some true)
    (hmC : PySem.W.mroIn K C (.type "object") = some true)
    (gCB : PySem.W.nsIn K mainGlobals "BadSheet" = some (some (.ref CB)))
    (xCB : PySem.W.excIn K CB [.type "ValueError", .type "Exception", .type "BaseException", .type "object"] "ValueError.__new__" = true)
    (kCB : PySem.W.keepIn K (.ref CB) = true)
    (bCB : PySem.W.subIn K (.ref CB) (.type "BaseException") = some true)
    (tCB : PySem.W.typeIn K (.ref CB) = some (.type "type"))
    (gCN : PySem.W.nsIn K mainGlobals "BadBlock" = some (some (.ref CN)))
    (xCN : PySem.W.excIn K CN [.type "ValueError", .type "Exception", .type "BaseException", .type "object"] "ValueError.__new__" = true)
    (kCN : PySem.W.keepIn K (.ref CN) = true)
    (bCN : PySem.W.subIn K (.ref CN) (.type "BaseException") = some true)
    (tCN : PySem.W.typeIn K (.ref CN) = some (.type "type"))
    (gCK : PySem.W.nsIn K mainGlobals "BadKind" = some (some (.ref CK)))
    (xCK : PySem.W.excIn K CK [.type "ValueError", .type "Exception", .type "BaseException", .type "object"] "ValueError.__new__" = true)
    (kCK : PySem.W.keepIn K (.ref CK) = true)
    (bCK : PySem.W.subIn K (.ref CK) (.type "BaseException") = some true)
    (tCK : PySem.W.typeIn K (.ref CK) = some (.type "type"))
    (gCE : PySem.W.nsIn K mainGlobals "EndsmeetError" = some (some (.ref CE)))
    (qCB : PySem.W.isClsIn K CB = true)
    (qCN : PySem.W.isClsIn K CN = true)
    (qCK : PySem.W.isClsIn K CK = true)
    (qCE : PySem.W.isClsIn K CE = true)
    (tCE : PySem.W.typeIn K (.ref CE) = some (.type "type"))
    (s_ss : PySem.W.subIn K (.ref CB) (.ref CB) = some true)
    (s_bs : PySem.W.subIn K (.ref CN) (.ref CB) = some false)
    (s_bb : PySem.W.subIn K (.ref CN) (.ref CN) = some true)
    (s_ks : PySem.W.subIn K (.ref CK) (.ref CB) = some false)
    (s_kb : PySem.W.subIn K (.ref CK) (.ref CN) = some false)
    (s_kk : PySem.W.subIn K (.ref CK) (.ref CK) = some true)
    (s_is : PySem.W.subIn K (.ref CB) (.ref CE) = some true)
    (hgB : PySem.W.findIn K (.ref CB) "__getattribute__" = some (some (.builtin "BaseException.__getattribute__")))
    (hkB : PySem.W.findIn K (.ref CB) "__getattr__" = some none)
    (hdB : PySem.W.hasDictIn K CB = true)
    (haB : PySem.W.findIn K (.ref CB) "__class__" = some (some (.builtin "object.__class__")))
    (hmB : PySem.W.mroIn K CB (.type "object") = some true)
    (z_len : PySem.W.nsIn K mainGlobals "len" = some none)
    (z_int : PySem.W.nsIn K mainGlobals "int" = some none)
    (z_range : PySem.W.nsIn K mainGlobals "range" = some none)
    (z_list : PySem.W.nsIn K mainGlobals "list" = some none)
    (z_tuple : PySem.W.nsIn K mainGlobals "tuple" = some none)
    (z_any : PySem.W.nsIn K mainGlobals "any" = some none)
    (z_isinstance : PySem.W.nsIn K mainGlobals "isinstance" = some none)
    (z_str : PySem.W.nsIn K mainGlobals "str" = some none)
    (z_all : PySem.W.nsIn K mainGlobals "all" = some none)
    (z_dict : PySem.W.nsIn K mainGlobals "dict" = some none)
    (z_sorted : PySem.W.nsIn K mainGlobals "sorted" = some none)
    (z_min : PySem.W.nsIn K mainGlobals "min" = some none)
    (z_iter : PySem.W.nsIn K mainGlobals "iter" = some none)
    (lw : PySem.W.nsIn K mainGlobals "LONGEST_WORD" = some (some (.int 8 t8)))
    (me : PySem.W.nsIn K mainGlobals "MOST_ENDS" = some (some (.int 4 t4)))
    (lkc : K.lookup cc = some ⟨ec, dcc, .fields vsc, slc⟩)
    (h11 : vsc[11]? = some (.ref Pt))
    (nPt : K.lookup Pt = none)
    (hHd : PySem.W.codeHdIn K cc Pt = true) :
    LamX.LawAtS l w K CX0 9 63 "script" mg fa h := by
  have e := hfa.symm.trans (PySem.W.mg_of X G a_law)
  cases e
  have F_let := fun_mk (st := sLetter) l_let c_let k_let
  have d_let : D K mg "is_letter" sLetter ["sign"] f_let _ := ⟨F_let, PySem.W.mg_of X G a_let, F_let.binds fun _ _ _ _ _ _ us hl => match us, hl with | [_], _ => rfl⟩
  have F_wrd := fun_mk (st := sIsWord) l_wrd c_wrd k_wrd
  have d_wrd : D K mg "is_word" sIsWord ["thing"] f_wrd _ := ⟨F_wrd, PySem.W.mg_of X G a_wrd, F_wrd.binds fun _ _ _ _ _ _ us hl => match us, hl with | [_], _ => rfl⟩
  have F_apt := fun_mk (st := sArePart) l_apt c_apt k_apt
  have d_apt : D K mg "_are_partners" sArePart ["partners"] f_apt _ := ⟨F_apt, PySem.W.mg_of X G a_apt, F_apt.binds fun _ _ _ _ _ _ us hl => match us, hl with | [_], _ => rfl⟩
  have F_aen := fun_mk (st := sAreEnds) l_aen c_aen k_aen
  have d_aen : D K mg "_are_ends" sAreEnds ["partners", "ends"] f_aen _ := ⟨F_aen, PySem.W.mg_of X G a_aen, F_aen.binds fun _ _ _ _ _ _ us hl => match us, hl with | [_, _], _ => rfl⟩
  have F_abk := fun_mk (st := sAreBlocks) l_abk c_abk k_abk
  have d_abk : D K mg "_are_blocks" sAreBlocks ["partners", "blocks"] f_abk _ := ⟨F_abk, PySem.W.mg_of X G a_abk, F_abk.binds fun _ _ _ _ _ _ us hl => match us, hl with | [_, _], _ => rfl⟩
  have F_cel := fun_mk (st := sCell) l_cel c_cel k_cel
  have d_cel : D K mg "_law_cell_at" sCell ["script", "k"] f_cel _ := ⟨F_cel, PySem.W.mg_of X G a_cel, F_cel.binds fun _ _ _ _ _ _ us hl => match us, hl with | [_, _], _ => rfl⟩
  have F_drw := fun_mk (st := sDraw) l_drw c_drw k_drw
  have d_drw : D K mg "_law_draw" sDraw ["cell", "k", "bound"] f_drw _ := ⟨F_drw, PySem.W.mg_of X G a_drw, F_drw.binds fun _ _ _ _ _ _ us hl => match us, hl with | [_, _, _], _ => rfl⟩
  have F_num := fun_mk (st := sNumber) l_num c_num k_num
  have d_num : D K mg "_law_number" sNumber ["cell", "k", "bound"] f_num _ := ⟨F_num, PySem.W.mg_of X G a_num, F_num.binds fun _ _ _ _ _ _ us hl => match us, hl with | [_, _, _], _ => rfl⟩
  have F_nxt := fun_mk (st := sNext) l_nxt c_nxt k_nxt
  have d_nxt : D K mg "_law_next" sNext ["draw", "bound"] f_nxt _ := ⟨F_nxt, PySem.W.mg_of X G a_nxt, F_nxt.binds fun _ _ _ _ _ _ us hl => match us, hl with | [_, _], _ => rfl⟩
  have F_pik := fun_mk (st := sPick) l_pik c_pik k_pik
  have d_pik : D K mg "_law_pick" sPick ["draw", "things"] f_pik _ := ⟨F_pik, PySem.W.mg_of X G a_pik, F_pik.binds fun _ _ _ _ _ _ us hl => match us, hl with | [_, _], _ => rfl⟩
  have F_lwd := fun_mk (st := sWord) l_lwd c_lwd k_lwd
  have d_lwd : D K mg "_law_word" sWord ["draw"] f_lwd _ := ⟨F_lwd, PySem.W.mg_of X G a_lwd, F_lwd.binds fun _ _ _ _ _ _ us hl => match us, hl with | [_], _ => rfl⟩
  have F_voc := fun_mk (st := sVocab) l_voc c_voc k_voc
  have d_voc : D K mg "_law_vocab" sVocab ["draw", "many"] f_voc _ := ⟨F_voc, PySem.W.mg_of X G a_voc, F_voc.binds fun _ _ _ _ _ _ us hl => match us, hl with | [_, _], _ => rfl⟩
  have F_par := fun_mk (st := sPartners) l_par c_par k_par
  have d_par : D K mg "_law_partners" sPartners ["draw", "many"] f_par _ := ⟨F_par, PySem.W.mg_of X G a_par, F_par.binds fun _ _ _ _ _ _ us hl => match us, hl with | [_, _], _ => rfl⟩
  have F_blo := fun_mk (st := sBlocks) l_blo c_blo k_blo
  have d_blo : D K mg "_law_blocks" sBlocks ["draw", "partners", "many", "top"] f_blo _ := ⟨F_blo, PySem.W.mg_of X G a_blo, F_blo.binds fun _ _ _ _ _ _ us hl => match us, hl with | [_, _, _, _], _ => rfl⟩
  have F_sht := fun_mk (st := sSheet) l_sht c_sht k_sht
  have d_sht : D K mg "_law_sheet" sSheet ["draw", "joints", "many", "top"] f_sht _ := ⟨F_sht, PySem.W.mg_of X G a_sht, F_sht.binds fun _ _ _ _ _ _ us hl => match us, hl with | [_, _, _, _], _ => rfl⟩
  have F_ljo := fun_mk (st := sLJoint) l_ljo c_ljo k_ljo
  have d_ljo : D K mg "_law_joint" sLJoint ["sheet", "kind"] f_ljo _ := ⟨F_ljo, PySem.W.mg_of X G a_ljo, F_ljo.binds fun _ _ _ _ _ _ us hl => match us, hl with | [_, _], _ => rfl⟩
  have F_ljs := fun_mk (st := sLJoints) l_ljs c_ljs k_ljs
  have d_ljs : D K mg "_law_joints" sLJoints ["sheet"] f_ljs _ := ⟨F_ljs, PySem.W.mg_of X G a_ljs, F_ljs.binds fun _ _ _ _ _ _ us hl => match us, hl with | [_], _ => rfl⟩
  have F_err := fun_mk (st := sErr) l_err c_err k_err
  have b_err := F_err.binds (ps := ["work"]) fun _ _ _ _ _ _ us hl => match us, hl with | [_], _ => rfl
  have F_spo := fun_mk (st := sSpoilt) l_spo c_spo k_spo
  have d_spo : D K mg "_law_spoilt" sSpoilt ["draw", "partners", "blocks"] f_spo _ := ⟨F_spo, PySem.W.mg_of X G a_spo, F_spo.binds fun _ _ _ _ _ _ us hl => match us, hl with | [_, _, _], _ => rfl⟩
  have F_ini := fun_mk (st := sInit) l_ini c_ini k_ini
  have b_ini := F_ini.binds (ps := ["self", "partners", "blocks"]) fun _ _ _ _ _ _ us hl => match us, hl with | [_, _, _], _ => rfl
  have F_knd := fun_mk (st := sKinds) l_knd c_knd k_knd
  have b_knd := F_knd.binds (ps := ["self"]) fun _ _ _ _ _ _ us hl => match us, hl with | [_], _ => rfl
  have F_nam := fun_mk (st := sNames) l_nam c_nam k_nam
  have b_nam := F_nam.binds (ps := ["self"]) fun _ _ _ _ _ _ us hl => match us, hl with | [_], _ => rfl
  have F_jts := fun_mk (st := sJoints) l_jts c_jts k_jts
  have b_jts := F_jts.binds (ps := ["self"]) fun _ _ _ _ _ _ us hl => match us, hl with | [_], _ => rfl
  have F_ptr := fun_mk (st := sPartner) l_ptr c_ptr k_ptr
  have b_ptr := F_ptr.binds (ps := ["self", "kind"]) fun _ _ _ _ _ _ us hl => match us, hl with | [_, _], _ => rfl
  have F_jnt := fun_mk (st := sJoint) l_jnt c_jnt k_jnt
  have b_jnt := F_jnt.binds (ps := ["self", "kind"]) fun _ _ _ _ _ _ us hl => match us, hl with | [_, _], _ => rfl
  have F_end := fun_mk (st := sEnds) l_end c_end k_end
  have b_end := F_end.binds (ps := ["self", "name"]) fun _ _ _ _ _ _ us hl => match us, hl with | [_, _], _ => rfl
  have F_len := fun_mk (st := sLen) l_len c_len k_len
  have b_len := F_len.binds (ps := ["self"]) fun _ _ _ _ _ _ us hl => match us, hl with | [_], _ => rfl
  have F_con := fun_mk (st := sCont) l_con c_con k_con
  have b_con := F_con.binds (ps := ["self", "name"]) fun _ _ _ _ _ _ us hl => match us, hl with | [_, _], _ => rfl
  have F_itr := fun_mk (st := sIter) l_itr c_itr k_itr
  have b_itr := F_itr.binds (ps := ["self"]) fun _ _ _ _ _ _ us hl => match us, hl with | [_], _ => rfl
  have F_equ := fun_mk (st := sEq) l_equ c_equ k_equ
  have b_equ := F_equ.binds (ps := ["self", "other"]) fun _ _ _ _ _ _ us hl => match us, hl with | [_, _], _ => rfl
  have n_len := PySem.W.mg_none_of X G z_len
  have n_int := PySem.W.mg_none_of X G z_int
  have n_range := PySem.W.mg_none_of X G z_range
  have n_list := PySem.W.mg_none_of X G z_list
  have n_tuple := PySem.W.mg_none_of X G z_tuple
  have n_any := PySem.W.mg_none_of X G z_any
  have n_isinstance := PySem.W.mg_none_of X G z_isinstance
  have n_str := PySem.W.mg_none_of X G z_str
  have n_all := PySem.W.mg_none_of X G z_all
  have n_dict := PySem.W.mg_none_of X G z_dict
  have n_sorted := PySem.W.mg_none_of X G z_sorted
  have n_min := PySem.W.mg_none_of X G z_min
  have n_iter := PySem.W.mg_none_of X G z_iter
  have Bt : Bi mg := ⟨n_isinstance, n_str, n_len, n_all, n_dict, n_tuple, n_list, n_sorted, n_min, n_iter, ⟨t8, PySem.W.mg_of X G lw⟩, ⟨t4, PySem.W.mg_of X G me⟩⟩
  have S : ClsS K mg C := ⟨⟨pg, hd, po, sa⟩, nP, nB, nN, PySem.W.mg_of X G aC⟩
  have XB : ErrC K mg "BadSheet" CB := ⟨PySem.W.mg_of X G gCB, xCB, kCB, bCB, tCB⟩
  have XN : ErrC K mg "BadBlock" CN := ⟨PySem.W.mg_of X G gCN, xCN, kCN, bCN, tCN⟩
  have XK : ErrC K mg "BadKind" CK := ⟨PySem.W.mg_of X G gCK, xCK, kCK, bCK, tCK⟩
  refine ⟨PySem.W.fnOf "law" "law" (defArgs sLaw) (defBody sLaw) (defScope sLaw) .none kV_law dc_law pm_law an_law (.ref cc) ct_law, [(cc, Pt)], spLaw K Pt, fun p hp => ?_, fun p hp => ?_, fun p hp => ?_, fun s u => .of_eq rfl, fun H a ns hl _ hH hS => ⟨a, ns, rfl, hS, hl, hH (cc, Pt) (List.mem_singleton.mpr rfl), fun _ => rfl⟩, fun base hb hn hT => ?_⟩
  · rw [List.mem_singleton.mp hp]
    exact own cc Pt _ _ _ _ _ _ l_law rfl rfl lkc h11
  · rw [List.mem_singleton.mp hp]
    exact nPt
  · rw [List.mem_singleton.mp hp]
    exact PySem.W.codeHd_of_K X hHd
  have TB := hT (cc, Pt) (List.mem_singleton.mpr rfl)
  have g_nxt := ok_next (P := l.prog) (w := w) (base := base) d_nxt.F d_cel d_num d_drw n_len n_int n_range
  have g_pik := ok_pick (P := l.prog) (w := w) (base := base) d_pik.F d_nxt g_nxt n_len
  have g_lwd := ok_word (P := l.prog) (w := w) (base := base) d_lwd.F d_pik g_pik d_nxt g_nxt n_range
  have g_voc := ok_vocab (P := l.prog) (w := w) (base := base) d_voc.F d_lwd g_lwd n_range
  have g_par := ok_partners (P := l.prog) (w := w) (base := base) d_par.F d_voc g_voc d_nxt g_nxt n_range
  have g_blo := ok_blocks (P := l.prog) (w := w) (base := base) d_blo.F d_voc g_voc d_nxt g_nxt d_pik g_pik n_range n_list n_tuple
  have g_sht := ok_sheet (P := l.prog) (w := w) (base := base) d_sht.F d_par g_par d_blo g_blo
  have g_wrd := ok_isWord (P := l.prog) (w := w) (base := base) d_wrd.F d_let Bt
  have g_apt := ok_arePart (P := l.prog) (w := w) (base := base) d_apt.F d_wrd g_wrd Bt
  have g_abk := ok_areBlocks (P := l.prog) (w := w) (base := base) d_abk.F d_wrd g_wrd d_aen Bt
  have g_ini := ok_init (P := l.prog) (w := w) (base := base) F_ini d_apt g_apt d_abk g_abk Bt S XB
  have g_ptr := ok_partner (P := l.prog) (w := w) (base := base) F_ptr Bt S XK
  exact ok_law l_law c_law ⟨d_nxt, g_nxt⟩ ⟨d_sht, g_sht⟩ ⟨d_ljo, ok_ljoint d_ljo.F Bt⟩ ⟨d_ljs, ok_ljoints d_ljs.F Bt⟩ ⟨d_pik, g_pik⟩ ⟨d_spo, ok_spoilt d_spo.F d_pik g_pik Bt⟩ Bt n_any S ⟨mkC, a_ini, i_ini, kc⟩ g_ini b_ini
    ⟨⟨a_knd, i_knd, k_knd⟩, ok_kinds F_knd Bt S, b_knd⟩ ⟨⟨a_nam, i_nam, k_nam⟩, ok_names F_nam Bt S, b_nam⟩ ⟨⟨a_jts, i_jts, k_jts⟩, ok_joints F_jts Bt S, b_jts⟩
    ⟨⟨a_ptr, i_ptr, k_ptr⟩, g_ptr, b_ptr⟩ ⟨⟨a_jnt, i_jnt, k_jnt⟩, ok_joint F_jnt ⟨a_ptr, i_ptr, k_ptr⟩ g_ptr b_ptr Bt S, b_jnt⟩ ⟨⟨a_end, i_end, k_end⟩, ok_ends F_end Bt S XN, b_end⟩
    ⟨⟨a_len, i_len, k_len⟩, ok_len F_len Bt S, b_len⟩ ⟨⟨a_con, i_con, k_con⟩, ok_cont F_con Bt S, b_con⟩ ⟨⟨a_itr, i_itr, k_itr⟩, ok_iter F_itr Bt S, b_itr⟩ F_itr
    ⟨⟨a_equ, i_equ, k_equ⟩, ok_eqS F_equ Bt S ⟨haC, hnC, htC, hmC⟩, b_equ⟩ po neC TB (PySem.W.mg_of X G a_err) k_err l_err c_err b_err XB.g XN.g XK.g (PySem.W.mg_of X G gCE) ⟨exm_two bCB qCB tCB s_ss, exm_two bCB qCB tCB s_bs, exm_two bCN qCN tCN s_bb, exm_two bCB qCB tCB s_ks, exm_two bCN qCN tCN s_kb, exm_two bCK qCK tCK s_kk, kit_two qCE tCE s_is⟩ ⟨hgB, hkB, bCB, hdB, haB, hnC, htC, hmB⟩
theorem walk {l : PySem.W.OpenLaw} {q : Program} {loose : List Str} {XP : (Str → Option Value) → Heap → Prop} {YP : World → Heap → Prop} {d : DefRec} {K : Params → PySem.W.Frag} (hn : l.most = some 63) (hdf : d.params.defaults = []) (hrec : ((recsOf q).any fun e => e.name == d.name) = true)
    (hY : ∀ (w : World) (h : Heap), YP w h → (K w.params).In h)
    (F : ∀ (w : World) (mg : Str → Option Value) (fa : Addr) (h : Heap), YP w h → (K w.params).In h → h.Ns mainGlobals mg → mg d.name = some (.ref fa) → LamX.OwnTab (K w.params) fa h → LamX.LawAtS l w (K w.params) CX0 9 63 "script" mg fa h) :
    PySem.W.WalkO q loose XP YP l.row.toRowW d [] (fun f vs => PySem.call f vs) :=
  LamX.walk_ofOwn (n := 63) (k := 9) (x := "script") (CX := fun _ => CX0) hn (by decide) hdf ⟨rfl, by decide, by decide⟩ hrec hY F fun _ _ _ _ _ z => z
end K1

set_option Elab.async false
set_option linter.all false
set_option maxRecDepth 100000
open PySem PySem.W PyProof.Rows in
set_option maxRecDepth 100000 in
set_option maxHeartbeats 0 in
theorem PySem.Challenge.cw_endsmeet_k01_sheets_holds : PySem.Challenge.rw_endsmeet_k01_sheets.Holds := by
  w_on; o_law; k_head; (case hw => w_witness2)
  k_fill
  refine K1.walk (l := PySem.Challenge.rw_endsmeet_k01_sheets) rfl rfl (by decide +kernel) (fun w h Y => PySem.W.km_in_of Y) ?F
  case F =>
    intro w mg fa h Y KX G hmg own
    refine' K1.all_mk KX G hmg own ?a_let ?l_let ?c_let ?k_let ?a_wrd ?l_wrd ?c_wrd ?k_wrd ?a_apt ?l_apt ?c_apt ?k_apt ?a_aen ?l_aen ?c_aen ?k_aen ?a_abk ?l_abk ?c_abk ?k_abk ?a_cel ?l_cel ?c_cel ?k_cel ?a_drw ?l_drw ?c_drw ?k_drw ?a_num ?l_num ?c_num ?k_num ?a_nxt ?l_nxt ?c_nxt ?k_nxt ?a_pik ?l_pik ?c_pik ?k_pik ?a_lwd ?l_lwd ?c_lwd ?k_lwd ?a_voc ?l_voc ?c_voc ?k_voc ?a_par ?l_par ?c_par ?k_par ?a_blo ?l_blo ?c_blo ?k_blo ?a_sht ?l_sht ?c_sht ?k_sht ?a_ljo ?l_ljo ?c_ljo ?k_ljo ?a_ljs ?l_ljs ?c_ljs ?k_ljs ?a_err ?l_err ?c_err ?k_err ?a_spo ?l_spo ?c_spo ?k_spo ?a_law ?l_law ?c_law ?k_law ?aC ?a_ini ?i_ini ?l_ini ?c_ini ?k_ini ?a_knd ?i_knd ?l_knd ?c_knd ?k_knd ?a_nam ?i_nam ?l_nam ?c_nam ?k_nam ?a_jts ?i_jts ?l_jts ?c_jts ?k_jts ?a_ptr ?i_ptr ?l_ptr ?c_ptr ?k_ptr ?a_jnt ?i_jnt ?l_jnt ?c_jnt ?k_jnt ?a_end ?i_end ?l_end ?c_end ?k_end ?a_len ?i_len ?l_len ?c_len ?k_len ?a_con ?i_con ?l_con ?c_con ?k_con ?a_itr ?i_itr ?l_itr ?c_itr ?k_itr ?a_equ ?i_equ ?l_equ ?c_equ ?k_equ ?pg ?hd ?po ?sa ?nP ?nB ?nN ?mkC ?kc ?neC ?haC ?hnC ?htC ?hmC ?gCB ?xCB ?kCB ?bCB ?tCB ?gCN ?xCN ?kCN ?bCN ?tCN ?gCK ?xCK ?kCK ?bCK ?tCK ?gCE ?qCB ?qCN ?qCK ?qCE ?tCE ?s_ss ?s_bs ?s_bb ?s_ks ?s_kb ?s_kk ?s_is ?hgB ?hkB ?hdB ?haB ?hmB ?z_len ?z_int ?z_range ?z_list ?z_tuple ?z_any ?z_isinstance ?z_str ?z_all ?z_dict ?z_sorted ?z_min ?z_iter ?lw ?me ?lkc ?h11 ?nPt ?hHd
    (case a_let => k_is)
    (case l_let => k_is)
    (case c_let => k_is)
    (case k_let => k_is)
    (case a_wrd => k_is)
    (case l_wrd => k_is)
    (case c_wrd => k_is)
    (case k_wrd => k_is)
    (case a_apt => k_is)
    (case l_apt => k_is)
    (case c_apt => k_is)
    (case k_apt => k_is)
    (case a_aen => k_is)
    (case l_aen => k_is)
    (case c_aen => k_is)
    (case k_aen => k_is)
    (case a_abk => k_is)
    (case l_abk => k_is)
    (case c_abk => k_is)
    (case k_abk => k_is)
    (case a_cel => k_is)
    (case l_cel => k_is)
    (case c_cel => k_is)
    (case k_cel => k_is)
    (case a_drw => k_is)
    (case l_drw => k_is)
    (case c_drw => k_is)
    (case k_drw => k_is)
    (case a_num => k_is)
    (case l_num => k_is)
    (case c_num => k_is)
    (case k_num => k_is)
    (case a_nxt => k_is)
    (case l_nxt => k_is)
    (case c_nxt => k_is)
    (case k_nxt => k_is)
    (case a_pik => k_is)
    (case l_pik => k_is)
    (case c_pik => k_is)
    (case k_pik => k_is)
    (case a_lwd => k_is)
    (case l_lwd => k_is)
    (case c_lwd => k_is)
    (case k_lwd => k_is)
    (case a_voc => k_is)
    (case l_voc => k_is)
    (case c_voc => k_is)
    (case k_voc => k_is)
    (case a_par => k_is)
    (case l_par => k_is)
    (case c_par => k_is)
    (case k_par => k_is)
    (case a_blo => k_is)
    (case l_blo => k_is)
    (case c_blo => k_is)
    (case k_blo => k_is)
    (case a_sht => k_is)
    (case l_sht => k_is)
    (case c_sht => k_is)
    (case k_sht => k_is)
    (case a_ljo => k_is)
    (case l_ljo => k_is)
    (case c_ljo => k_is)
    (case k_ljo => k_is)
    (case a_ljs => k_is)
    (case l_ljs => k_is)
    (case c_ljs => k_is)
    (case k_ljs => k_is)
    (case a_err => k_is)
    (case l_err => k_is)
    (case c_err => k_is)
    (case k_err => k_is)
    (case a_spo => k_is)
    (case l_spo => k_is)
    (case c_spo => k_is)
    (case k_spo => k_is)
    (case a_law => k_is)
    (case l_law => k_is)
    (case c_law => k_is)
    (case k_law => k_is)
    (case aC => k_is)
    (case a_ini => k_is)
    (case i_ini => k_is)
    (case l_ini => k_is)
    (case c_ini => k_is)
    (case k_ini => k_is)
    (case a_knd => k_is)
    (case i_knd => k_is)
    (case l_knd => k_is)
    (case c_knd => k_is)
    (case k_knd => k_is)
    (case a_nam => k_is)
    (case i_nam => k_is)
    (case l_nam => k_is)
    (case c_nam => k_is)
    (case k_nam => k_is)
    (case a_jts => k_is)
    (case i_jts => k_is)
    (case l_jts => k_is)
    (case c_jts => k_is)
    (case k_jts => k_is)
    (case a_ptr => k_is)
    (case i_ptr => k_is)
    (case l_ptr => k_is)
    (case c_ptr => k_is)
    (case k_ptr => k_is)
    (case a_jnt => k_is)
    (case i_jnt => k_is)
    (case l_jnt => k_is)
    (case c_jnt => k_is)
    (case k_jnt => k_is)
    (case a_end => k_is)
    (case i_end => k_is)
    (case l_end => k_is)
    (case c_end => k_is)
    (case k_end => k_is)
    (case a_len => k_is)
    (case i_len => k_is)
    (case l_len => k_is)
    (case c_len => k_is)
    (case k_len => k_is)
    (case a_con => k_is)
    (case i_con => k_is)
    (case l_con => k_is)
    (case c_con => k_is)
    (case k_con => k_is)
    (case a_itr => k_is)
    (case i_itr => k_is)
    (case l_itr => k_is)
    (case c_itr => k_is)
    (case k_itr => k_is)
    (case a_equ => k_is)
    (case i_equ => k_is)
    (case l_equ => k_is)
    (case c_equ => k_is)
    (case k_equ => k_is)
    (case pg => k_is)
    (case hd => k_is)
    (case po => k_is)
    (case sa => k_is)
    (case nP => k_is)
    (case nB => k_is)
    (case nN => k_is)
    (case mkC => k_is)
    (case kc => k_is)
    (case neC => k_is)
    (case haC => k_is)
    (case hnC => k_is)
    (case htC => k_is)
    (case hmC => k_is)
    (case gCB => k_is)
    (case xCB => k_exc)
    (case kCB => k_is)
    (case bCB => k_is)
    (case tCB => k_is)
    (case gCN => k_is)
    (case xCN => k_exc)
    (case kCN => k_is)
    (case bCN => k_is)
    (case tCN => k_is)
    (case gCK => k_is)
    (case xCK => k_exc)
    (case kCK => k_is)
    (case bCK => k_is)
    (case tCK => k_is)
    (case gCE => k_is)
    (case qCB => k_is)
    (case qCN => k_is)
    (case qCK => k_is)
    (case qCE => k_is)
    (case tCE => k_is)
    (case s_ss => first | rfl | k_is)
    (case s_bs => first | rfl | k_is)
    (case s_bb => first | rfl | k_is)
    (case s_ks => first | rfl | k_is)
    (case s_kb => first | rfl | k_is)
    (case s_kk => first | rfl | k_is)
    (case s_is => first | rfl | k_is)
    (case hgB => k_is)
    (case hkB => k_is)
    (case hdB => k_is)
    (case haB => k_is)
    (case hmB => k_is)
    (case z_len => k_is)
    (case z_int => k_is)
    (case z_range => k_is)
    (case z_list => k_is)
    (case z_tuple => k_is)
    (case z_any => k_is)
    (case z_isinstance => k_is)
    (case z_str => k_is)
    (case z_all => k_is)
    (case z_dict => k_is)
    (case z_sorted => k_is)
    (case z_min => k_is)
    (case z_iter => k_is)
    (case lw => k_is)
    (case me => k_is)
    (case lkc => k_is)
    (case h11 => exact rfl)
    (case nPt => first | exact rfl | kernel_rfl)
    (case hHd => first | exact rfl | kernel_rfl)

