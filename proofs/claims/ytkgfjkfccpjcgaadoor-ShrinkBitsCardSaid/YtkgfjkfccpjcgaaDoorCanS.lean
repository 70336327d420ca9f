import Derived.Test.YtkgfjkfccpjcgaaDoorCanonM
import Derived.Test.YtkgfjkfccpjcgaaDoorBitX
import Derived.Test.YtkgfjkfccpjcgaaDoorKeepM
import Derived.KernelRfl
namespace Go.Abs.Sh
set_option linter.unusedVariables false
set_option linter.unusedSimpArgs false
set_option maxRecDepth 10000
theorem pow_split {n : Nat} (h : n ≤ 15) : 2 ^ n * 2 ^ (15 - n) = 32768 := by
 rw [← Nat.pow_add,show n + (15 - n) = 15 by omega]
theorem fst_step (m : List Nat) {n : Nat} (h0 : 1 ≤ n) (h : n ≤ 15) : fst m n * 2 ^ (15 - n) = ws m (n - 1) := by
 have := fst_ws m (n - 1) (by omega)
 rwa [show n - 1 + 1 = n by omega,show 14 - (n - 1) = 15 - n by omega] at this
theorem ws_step (m : List Nat) {n : Nat} (h0 : 1 ≤ n) (h : n ≤ 15) : (fst m n + m.count n) * 2 ^ (15 - n) = ws m n := by
 rw [Nat.add_mul,fst_step m h0 h]
 obtain ⟨k,rfl⟩ : ∃ k,n = k + 1 := ⟨n - 1,by omega⟩
 rfl
theorem fst_le {m : List Nat} (hw : ws m 15 ≤ 32768) {n : Nat} (h0 : 1 ≤ n) (h : n ≤ 15) : fst m n + m.count n ≤ 2 ^ n := by
 have h1 := ws_step m h0 h
 have h2 := ws_mono m h
 have hp : 0 < 2 ^ (15 - n) := Nat.pow_pos (by omega)
 refine Nat.le_of_mul_le_mul_right ?_ hp
 rw [h1,pow_split h]
 omega
theorem pow_le15 {n : Nat} (h : n ≤ 15) : 2 ^ n ≤ 32768 := Nat.pow_le_pow_right (show 0 < 2 by omega) h
theorem fst_small {m : List Nat} (hw : ws m 15 ≤ 32768) {n : Nat} (h : n ≤ 15) : fst m n ≤ 32768 := by
 rcases Nat.eq_zero_or_pos n with h0 | h0
 ·subst h0; simp [fst]
 ·have := fst_le hw h0 h
  have := pow_le15 h
  omega
def fl (m : List Nat) (i : Nat) : List Nat := (List.range 16).map fun n => if n < i then fst m n else 0
theorem fl_len (m : List Nat) (i : Nat) : (fl m i).length = 16 := by simp [fl]
theorem fl_set (m : List Nat) (i : Nat) (h : i < 16) : (fl m i).set i (fst m i) = fl m (i + 1) := by
 apply List.ext_getElem
 ·simp [fl]
 ·intro j h1 h2
  rw [List.getElem_set]
  simp only [fl,List.getElem_map,List.getElem_range]
  by_cases hij : i = j
  ·subst hij; simp
  ·rw [if_neg hij]
   by_cases hj : j < i
   ·rw [if_pos hj,if_pos (by omega)]
   ·rw [if_neg hj,if_neg (by omega)]
theorem firsts_eq (m : List Nat) (hl : m.length ≤ 1000) (hw : ws m 15 ≤ 32768) : canon_firsts (ints (tal m)) = some (ints (fl m 16)) := by
 unfold canon_firsts
 have key : ∀ (k fuel i : Nat),16 - i = k → i ≤ 16 → 2 ≤ i → k < fuel →
  loopF (S := ((List Int) × Int)) (O := ((List Int)) ⊕ (List Int)) (fun ((s16,s17) : (List Int) × Int) =>
   cond ((decide (s17 ≤ 15)))
    ((some (IntKind.i64.wrap (s17 - 1))).bind fun v2 =>
    (ixO v2 16).bind fun v3 =>
    (getO s16 v3).bind fun v4 =>
    (some (IntKind.i64.wrap (s17 - 1))).bind fun v5 =>
    (ixO v5 16).bind fun v6 =>
    (getO (ints (tal m)) v6).bind fun v7 =>
    (some (IntKind.i64.wrap (v4 + v7))).bind fun v8 =>
    (some (IntKind.i64.wrap (2 * v8))).bind fun v9 =>
    (ixO s17 16).bind fun v10 =>
    (setO s16 v10 v9).bind fun v11 =>
    (some (IntKind.i64.wrap (s17 + 1))).bind fun v12 =>
    some (.inl (v11,v12)))
    (some (.inr (.inl s16)))) fuel (ints (fl m i),(i : Int)) = some (.inl (ints (fl m 16))) := by
  intro k
  induction k with
  | zero =>
   intro fuel i hk hi h2 hf
   obtain ⟨f,rfl⟩ : ∃ f,fuel = f + 1 := ⟨fuel - 1,by omega⟩
   have : i = 16 := by omega
   subst this
   exact loop_exit (cnd_f (by simp) rfl)
  | succ k ih =>
   intro fuel i hk hi h2 hf
   obtain ⟨f,rfl⟩ : ∃ f,fuel = f + 1 := ⟨fuel - 1,by omega⟩
   have h16 : i < 16 := by omega
   have w1 : IntKind.i64.wrap ((i : Int) - 1) = ((i - 1 : Nat) : Int) := by rw [wrap_i64 (by omega) (by omega)]; omega
   have w2 : IntKind.i64.wrap ((i : Int) + 1) = ((i + 1 : Nat) : Int) := by rw [wrap_i64 (by omega) (by omega)]; simp
   have hx : i - 1 < 16 := by omega
   have hfl : i - 1 < (fl m i).length := by rw [fl_len]; exact hx
   have hg : (fl m i)[i - 1] = fst m (i - 1) := by simp [fl]; omega
   have hb := fst_le hw (n := i - 1) (by omega) (by omega)
   have hb2 := pow_le15 (n := i - 1) (by omega)
   have w3 : IntKind.i64.wrap (((fst m (i - 1) : Nat) : Int) + ((m.count (i - 1) : Nat) : Int)) = ((fst m (i - 1) + m.count (i - 1) : Nat) : Int) := by rw [wrap_i64 (by omega) (by omega)]; simp
   have hstep : fst m i = 2 * (fst m (i - 1) + m.count (i - 1)) := by
    obtain ⟨j,rfl⟩ : ∃ j,i = j + 2 := ⟨i - 2,by omega⟩
    rfl
   have w4 : IntKind.i64.wrap (2 * ((fst m (i - 1) + m.count (i - 1) : Nat) : Int)) = ((fst m i : Nat) : Int) := by rw [hstep,wrap_i64 (by omega) (by omega)]; simp
   have hset := ints_set (fl m i) i (fst m i) (by rw [fl_len]; exact h16)
   rw [fl_set m i h16] at hset
   refine (loop_next (cnd_t (by simp; omega) (bnd (x := ((i - 1 : Nat) : Int)) (by rw [w1]) (bnd (ixO_of hx) (bnd (x := ((fst m (i - 1) : Nat) : Int)) (by rw [ints_get hfl,hg]) (bnd (x := ((i - 1 : Nat) : Int)) (by rw [w1]) (bnd (ixO_of hx) (bnd (tal_get m hx (by omega))
    (bnd (x := ((fst m (i - 1) + m.count (i - 1) : Nat) : Int)) (by rw [w3]) (bnd (x := ((fst m i : Nat) : Int)) (by rw [w4]) (bnd (ixO_of h16) (bnd hset (bnd (x := ((i + 1 : Nat) : Int)) (by rw [w2]) rfl))))))))))))).trans ?_
   exact ih f (i + 1) (by omega) (by omega) (by omega) (by omega)
 have h0 : ints (fl m 2) = List.replicate 16 (0 : Int) := by
  have : fl m 2 = List.replicate 16 0 := by
   apply List.ext_getElem
   ·simp [fl]
   ·intro j h1 h2
    simp only [fl,List.getElem_map,List.getElem_range,List.getElem_replicate]
    split
    ·rename_i h
     have : j = 0 ∨ j = 1 := by omega
     rcases this with rfl | rfl <;> rfl
    ·rfl
  rw [this]; decide
 have hk := key 14 BIG 2 rfl (by omega) (by omega) (by unfold BIG; omega)
 rw [h0] at hk
 have l16 : lnO 16 (ints (fl m 16)) = some (ints (fl m 16)) := by simp [lnO,ints_len,fl_len]
 have l0 : lnO 16 (List.replicate 16 (0 : Int)) = some (List.replicate 16 (0 : Int)) := by decide
 exact bndL hk (bnd l16 (bnd l0 (bnd l16 (bnd l16 rfl))))
def code (m : List Nat) (j : Nat) : Nat := if m.getD j 0 = 0 then 0 else fst m (m.getD j 0) + (m.take j).count (m.getD j 0)
def codes (m : List Nat) : List Nat := (List.range m.length).map (code m)
def nx (m : List Nat) (i : Nat) : List Nat := (List.range 16).map fun n => if n = 0 then 0 else fst m n + (m.take i).count n
def cd (m : List Nat) (i : Nat) : List Nat := (List.range m.length).map fun j => if j < i then code m j else 0
theorem nx_len (m : List Nat) (i : Nat) : (nx m i).length = 16 := by simp [nx]
theorem cd_len (m : List Nat) (i : Nat) : (cd m i).length = m.length := by simp [cd]
theorem nx_set (m : List Nat) (i : Nat) (h : i < m.length) (hx : m[i] ≤ 15) (h0 : 0 < m[i]) : (nx m i).set m[i] (fst m m[i] + (m.take i).count m[i] + 1) = nx m (i + 1) := by
 have htk : m.take (i + 1) = m.take i ++ [m[i]] := by rw [List.take_add_one]; simp [h]
 apply List.ext_getElem
 ·simp [nx]
 ·intro j h1 h2
  rw [List.getElem_set]
  simp only [nx,List.getElem_map,List.getElem_range,htk,List.count_append]
  by_cases hij : m[i] = j
  ·rw [if_pos hij,if_neg (by omega),hij]; simp [hij]; omega
  ·rw [if_neg hij]
   have : List.count j [m[i]] = 0 := by simp [List.count_cons,hij]
   rw [this]; rfl
theorem nx_zero (m : List Nat) (i : Nat) (h : i < m.length) (h0 : m[i] = 0) : nx m (i + 1) = nx m i := by
 have htk : m.take (i + 1) = m.take i ++ [m[i]] := by rw [List.take_add_one]; simp [h]
 apply List.ext_getElem
 ·simp [nx]
 ·intro j h1 h2
  simp only [nx,List.getElem_map,List.getElem_range,htk,List.count_append]
  by_cases hj : j = 0
  ·simp [hj]
  ·have : List.count j [m[i]] = 0 := by simp [List.count_cons,h0]; omega
   rw [this]; rfl
theorem cd_set (m : List Nat) (i : Nat) (h : i < m.length) : (cd m i).set i (code m i) = cd m (i + 1) := by
 apply List.ext_getElem
 ·simp [cd]
 ·intro j h1 h2
  rw [List.getElem_set]
  simp only [cd,List.getElem_map,List.getElem_range]
  by_cases hij : i = j
  ·subst hij; simp
  ·rw [if_neg hij]
   by_cases hj : j < i
   ·rw [if_pos hj,if_pos (by omega)]
   ·rw [if_neg hj,if_neg (by omega)]
theorem cd_zero (m : List Nat) (i : Nat) (h : i < m.length) (h0 : m[i] = 0) : cd m (i + 1) = cd m i := by
 apply List.ext_getElem
 ·simp [cd]
 ·intro j h1 h2
  simp only [cd,List.getElem_map,List.getElem_range]
  by_cases hij : j = i
  ·subst hij
   have : code m j = 0 := by simp [code,List.getD_eq_getElem?_getD,h,h0]
   simp [this]
  ·by_cases hj : j < i
   ·rw [if_pos hj,if_pos (by omega)]
   ·rw [if_neg hj,if_neg (by omega)]
theorem codes_eq (m : List Nat) (hl : m.length ≤ 300) (hm : ∀ x ∈ m,x ≤ 15) (hf : forms m = true) : canon_Codes (ints m) = some (ints (codes m),0) := by
 have hw := forms_ws hf
 unfold canon_Codes
 have hck := check_ints m (by omega)
 rw [if_pos ⟨hl,hm⟩,if_pos hf] at hck
 have l16 : lnO 16 (ints (fl m 16)) = some (ints (fl m 16)) := by simp [lnO,ints_len,fl_len]
 have l0 : lnO 16 (List.replicate 16 (0 : Int)) = some (List.replicate 16 (0 : Int)) := by decide
 have hmk : mkO 8 ((ints m).length : Int) (0 : Int) = some (ints (cd m 0)) := by
  simp only [mkO]
  rw [if_pos ⟨by omega,by rw [ints_len]; omega⟩,ints_len]
  congr 1
  apply List.ext_getElem
  ·simp [ints,cd]
  ·intro j h1 h2; simp [ints,cd]
 have hn0 : nx m 0 = fl m 16 := by
  apply List.ext_getElem
  ·simp [nx,fl]
  ·intro j h1 h2
   have hj : j < 16 := by rw [nx_len] at h1; exact h1
   simp only [nx,fl,List.getElem_map,List.getElem_range,List.take_zero,List.count_nil,Nat.add_zero,hj,if_true]
   split
   ·rename_i h; subst h; rfl
   ·rfl
 refine bnd hck (cnd_f rfl (bnd (count_eq m hm (by omega)) (bnd (firsts_eq m (by omega) hw) (bnd l0 (bnd l16 (bnd hmk ?_))))))
 have key : ∀ (k fuel i : Nat),m.length - i = k → i ≤ m.length → k < fuel →
   loopF (S := ((List Int) × (List Int) × Int)) (O := ((List Int)) ⊕ ((List Int) × Int)) (fun ((s39,s40,s41) : (List Int) × (List Int) × Int) =>
    cond ((decide (s41 < ((ints m).length : Int))))
     (bindS (S := (List Int) × (List Int)) (A := (((List Int) × (List Int) × Int) ⊕ (((List Int)) ⊕ ((List Int) × Int))))
      ((ixO s41 (ints m).length).bind fun v9 =>
      (getO (ints m) v9).bind fun v10 =>
      cond ((decide (0 < v10)))
       ((ixO v10 16).bind fun v12 =>
       (getO s39 v12).bind fun v13 =>
       (ixO s41 s40.length).bind fun v14 =>
       (some (s40.set v14 v13)).bind fun v15 =>
       (ixO v10 16).bind fun v16 =>
       (getO s39 v16).bind fun v17 =>
       (some (IntKind.i64.wrap (v17 + 1))).bind fun v18 =>
       (ixO v10 16).bind fun v19 =>
       (setO s39 v19 v18).bind fun v20 =>
       some (.inl (v20,v15)))
       (some (.inl (s39,s40))))
      (fun ((s59,s60) : (List Int) × (List Int)) =>
       (some (IntKind.i64.wrap (s41 + 1))).bind fun v27 =>
       some (.inl (s59,s60,v27))) some)
     (some (.inr (.inl s40)))) fuel (ints (nx m i),ints (cd m i),(i : Int)) = some (.inl (ints (cd m m.length))) := by
  intro k
  induction k with
  | zero =>
   intro fuel i hk hi hf
   obtain ⟨f,rfl⟩ : ∃ f,fuel = f + 1 := ⟨fuel - 1,by omega⟩
   have : i = m.length := by omega
   subst this
   exact loop_exit (cnd_f (by simp [ints_len]) rfl)
  | succ k ih =>
   intro fuel i hk hi hf
   obtain ⟨f,rfl⟩ : ∃ f,fuel = f + 1 := ⟨fuel - 1,by omega⟩
   have hlt : i < m.length := by omega
   have hlt' : i < (ints m).length := by rw [ints_len]; exact hlt
   have hw1 : IntKind.i64.wrap ((i : Int) + 1) = ((i + 1 : Nat) : Int) := by rw [wrap_i64 (by omega) (by omega)]; simp
   have hx := hm m[i] (List.getElem_mem hlt)
   refine (loop_next (s' := (ints (nx m (i + 1)),ints (cd m (i + 1)),((i + 1 : Nat) : Int))) (cnd_t (by simp; omega) (bndL (s := (ints (nx m (i + 1)),ints (cd m (i + 1)))) (bnd (ixO_of hlt') (bnd (ints_get hlt) ?_)) (bnd (x := ((i + 1 : Nat) : Int)) (by rw [hw1]) rfl)))).trans (ih f (i + 1) (by omega) (by omega) (by omega))
   by_cases h0 : 0 < m[i]
   ·have h16 : m[i] < 16 := by omega
    have hnl : m[i] < (nx m i).length := by rw [nx_len]; exact h16
    have hng : (nx m i)[m[i]] = fst m m[i] + (m.take i).count m[i] := by simp [nx]; omega
    have hcode : code m i = fst m m[i] + (m.take i).count m[i] := by
     have : m.getD i 0 = m[i] := by simp [List.getD_eq_getElem?_getD,hlt]
     rw [code,this,if_neg (by omega)]
    have hc : (m.take i).count m[i] ≤ m.length := Nat.le_trans List.count_le_length (by simp; omega)
    have hfs := fst_small hw hx
    have w5 : IntKind.i64.wrap (((fst m m[i] + (m.take i).count m[i] : Nat) : Int) + 1) = ((fst m m[i] + (m.take i).count m[i] + 1 : Nat) : Int) := by rw [wrap_i64 (by omega) (by omega)]; simp
    have hg : getO (ints (nx m i)) m[i] = some ((fst m m[i] + (m.take i).count m[i] : Nat) : Int) := by rw [ints_get hnl,hng]
    have hcl : i < (ints (cd m i)).length := by rw [ints_len,cd_len]; exact hlt
    have hset := ints_set (nx m i) m[i] (fst m m[i] + (m.take i).count m[i] + 1) hnl
    rw [nx_set m i hlt hx h0] at hset
    have hcs : (ints (cd m i)).set i (((fst m m[i] + (m.take i).count m[i] : Nat)) : Int) = ints (cd m (i + 1)) := by
     rw [← cd_set m i hlt,hcode,ints,ints,List.map_set]
    refine cnd_t (by simp; omega) (bnd (ixO_of h16) (bnd hg (bnd (ixO_of hcl) (bnd (x := ints (cd m (i + 1))) (by rw [hcs]) (bnd (ixO_of h16) (bnd hg (bnd (x := ((fst m m[i] + (m.take i).count m[i] + 1 : Nat) : Int)) (by rw [w5]) (bnd (ixO_of h16) (bnd hset rfl)))))))))
   ·have hz : m[i] = 0 := by omega
    refine cnd_f (by simp; omega) ?_
    rw [nx_zero m i hlt hz,cd_zero m i hlt hz]
 have hk := key m.length BIG 0 (by omega) (Nat.zero_le _) (by unfold BIG; omega)
 rw [hn0] at hk
 have he : cd m m.length = codes m := by
  apply List.ext_getElem
  ·simp [cd,codes]
  ·intro j h1 h2
   have : j < m.length := by rw [cd_len] at h1; exact h1
   simp [cd,codes,this]
 rw [he] at hk
 exact bndL hk rfl
theorem getD_of {m : List Nat} {i : Nat} (h : i < m.length) : m.getD i 0 = m[i] := by simp [List.getD_eq_getElem?_getD,h]
theorem code_of {m : List Nat} {i : Nat} (h : i < m.length) (h0 : m[i] ≠ 0) : code m i = fst m m[i] + (m.take i).count m[i] := by
 rw [code,getD_of h,if_neg h0]
theorem count_take_lt {m : List Nat} {i : Nat} (h : i < m.length) : (m.take i).count m[i] + 1 ≤ m.count m[i] := by
 have h1 : m.count m[i] = (m.take i).count m[i] + (m.drop i).count m[i] := by
  rw [← List.count_append,List.take_append_drop]
 have h2 : m.drop i = m[i] :: m.drop (i + 1) := List.drop_eq_getElem_cons h
 rw [h1,h2,List.count_cons]
 simp
theorem code_lt {m : List Nat} (hw : ws m 15 ≤ 32768) (hm : ∀ x ∈ m,x ≤ 15) {i : Nat} (h : i < m.length) (h0 : m[i] ≠ 0) : code m i + 1 ≤ 2 ^ m[i] := by
 have h1 := fst_le hw (n := m[i]) (by omega) (hm _ (List.getElem_mem h))
 have h2 := count_take_lt h
 rw [code_of h h0]; omega
def valid (l : List Int) : Prop := l.length ≤ 300 ∧ ∀ n ∈ l,0 ≤ n ∧ n ≤ 15
instance validDec (l : List Int) : Decidable (valid l) := by unfold valid; infer_instance
def nz (m : List Nat) : Nat := m.countP (fun x => decide (0 < x))
def oc (m : List Nat) (n i : Nat) : List Nat := (List.range m.length).map fun j => if m.getD j 0 = 0 then 0 else if m.getD j 0 < n then code m j else if m.getD j 0 = n ∧ j < i then code m j else 0
def turnS : ((Int × Int × Int)) → Option ((Int × Int × Int) ⊕ ((Int) ⊕ (Int × Int))) := (fun ((s14,s15,s16) : Int × Int × Int) =>
  cond ((decide (0 < s14)))
   ((shlO .u32 s15 1).bind fun v5 =>
   (some (bits .and .u32 s16 1)).bind fun v6 =>
   (some (bits .or .u32 v5 v6)).bind fun v7 =>
   (shrO .u32 s16 1).bind fun v8 =>
   (some (IntKind.i64.wrap (s14 - 1))).bind fun v9 =>
   some (.inl (v9,v7,v8)))
   (some (.inr (.inl s15))))
def isB (l : List Int) : Prop := ∀ n ∈ l,0 ≤ n ∧ n < 256
def bitC (l : List Int) (q : Nat) : Bool := (l.getD (q / 8) 0).toNat.testBit (q % 8)
structure Good (B : List Int) (N : Nat) : Prop where
 len : B.length = (N + 7) / 8
 bytes : isB B
 zero : ∀ q,N ≤ q → bitC B q = false
theorem wrap_u32c {n : Int} (h0 : 0 ≤ n) (h1 : n < 4294967296) : IntKind.u32.wrap n = n := by
 simp only [IntKind.wrap,IntKind.bits,IntKind.signed]
 have e : (2 : Int) ^ 32 = 4294967296 := by decide
 simp only [e,Bool.false_and,Bool.false_eq_true,if_false]
 omega
theorem ofInt32 (a : Nat) (ha : a < 4294967296) : (BitVec.ofInt 32 (a : Int)).toNat = a := by
 rw [BitVec.ofInt_natCast,BitVec.toNat_ofNat]; exact Nat.mod_eq_of_lt (by omega)
theorem and1_u32 (a : Nat) (ha : a < 4294967296) : bits .and .u32 (a : Int) 1 = ((a % 2 : Nat) : Int) := by
 show IntKind.u32.wrap ((BitVec.ofInt 32 (a : Int) &&& BitVec.ofInt 32 ((1 : Nat) : Int)).toNat : Int) = _
 rw [BitVec.toNat_and,ofInt32 a ha,ofInt32 1 (by omega),Nat.and_one_is_mod,wrap_u32c (by omega) (by omega)]
theorem or_u32 (c x : Nat) (hc : c < 1000000000) (hx : x < 2) : bits .or .u32 ((2 * c : Nat) : Int) (x : Int) = ((2 * c + x : Nat) : Int) := by
 have h := Nat.shiftLeft_add_eq_or_of_lt (a := c) (b := x) (i := 1) (by omega)
 rw [Nat.shiftLeft_eq,Nat.pow_one,Nat.mul_comm] at h
 show IntKind.u32.wrap ((BitVec.ofInt 32 ((2 * c : Nat) : Int) ||| BitVec.ofInt 32 (x : Int)).toNat : Int) = _
 rw [BitVec.toNat_or,ofInt32 _ (by omega),ofInt32 _ (by omega),← h,wrap_u32c (by omega) (by omega)]
theorem shl_u32 (a k : Nat) (hk : k ≤ 32) (h : a * 2 ^ k < 4294967296) : shlO .u32 (a : Int) (k : Int) = some ((a * 2 ^ k : Nat) : Int) := by
 simp only [shlO,IntKind.bits]
 rw [if_pos (by omega),Int.toNat_natCast,Nat.min_eq_left hk]
 have e : (a : Int) * 2 ^ k = ((a * 2 ^ k : Nat) : Int) := by push_cast; rfl
 rw [e]
 generalize a * 2 ^ k = y at *
 rw [wrap_u32c (by omega) (by omega)]
theorem or_u8 (a b : Nat) (ha : a < 256) (hb : b < 256) : bits .or .u8 (a : Int) (b : Int) = ((a ||| b : Nat) : Int) := by
 have hx : a ||| b < 2 ^ 8 := Nat.or_lt_two_pow (by omega) (by omega)
 show IntKind.u8.wrap ((BitVec.ofInt 8 (a : Int) ||| BitVec.ofInt 8 (b : Int)).toNat : Int) = _
 rw [BitVec.toNat_or,ofInt8 a ha,ofInt8 b hb,wrap_u8']; omega
theorem fits_eq (v n : Nat) (hn : n ≤ 24) (hv : v < 2 ^ n) : bits_fits (v : Int) (n : Int) = some true := by
 have hp : 2 ^ n ≤ 2 ^ 24 := Nat.pow_le_pow_right (by omega) hn
 have e : (2 : Nat) ^ 24 = 16777216 := by decide
 have sh := shl_nat 1 n (by omega) (by omega)
 rw [Nat.one_mul] at sh
 unfold bits_fits
 refine bndL (s := true) (cnd_t (by simp) (cnd_t (by simp; omega) (cnd_t (by simp) (bnd sh ?_)))) rfl
 rw [decide_eq_true (by omega)]
theorem turn_loop (v n : Nat) (hn : n ≤ 24) (hv : v < 2 ^ n) : ∀ (k fuel t r : Nat),n - t = k → t ≤ n → k < fuel → r < 2 ^ t → (∀ i,i < t → r.testBit i = v.testBit (t - 1 - i)) →
  ∃ r' : Nat,loopF turnS fuel (((n - t : Nat) : Int),(r : Int),((v / 2 ^ t : Nat) : Int)) = some (.inl (r' : Int)) ∧ r' < 2 ^ n ∧ ∀ i,i < n → r'.testBit i = v.testBit (n - 1 - i) := by
 have hp : 2 ^ n ≤ 2 ^ 24 := Nat.pow_le_pow_right (by omega) hn
 have e24 : (2 : Nat) ^ 24 = 16777216 := by decide
 intro k
 induction k with
 | zero =>
  intro fuel t r hk ht hf hr hb
  obtain ⟨f,rfl⟩ : ∃ f,fuel = f + 1 := ⟨fuel - 1,by omega⟩
  have : t = n := by omega
  subst this
  refine ⟨r,loop_exit ?_,hr,hb⟩
  unfold turnS
  exact cnd_f (by simp) rfl
 | succ k ih =>
  intro fuel t r hk ht hf hr hb
  obtain ⟨f,rfl⟩ : ∃ f,fuel = f + 1 := ⟨fuel - 1,by omega⟩
  have hp2 : 2 ^ t ≤ 2 ^ 24 := Nat.pow_le_pow_right (by omega) (by omega)
  have hvt : v / 2 ^ t < 4294967296 := Nat.lt_of_le_of_lt (Nat.div_le_self _ _) (by omega)
  have sh := shl_u32 r 1 (by omega) (by omega)
  rw [Nat.pow_one,Nat.mul_comm,show ((1 : Nat) : Int) = 1 from rfl] at sh
  have hy : v / 2 ^ t % 2 < 2 := Nat.mod_lt _ (by omega)
  have hor := or_u32 r (v / 2 ^ t % 2) (by omega) hy
  have hsr := shr_nat .u32 (v / 2 ^ t) 1 (by decide)
  rw [Nat.pow_one,Nat.div_div_eq_div_mul,← Nat.pow_succ,show ((1 : Nat) : Int) = 1 from rfl] at hsr
  have w : IntKind.i64.wrap (((n - t : Nat) : Int) - 1) = ((n - (t + 1) : Nat) : Int) := by rw [wrap_i64 (by omega) (by omega)]; omega
  have hand := and1_u32 _ hvt
  have hbit : ∀ i,i < t + 1 → (2 * r + v / 2 ^ t % 2).testBit i = v.testBit (t + 1 - 1 - i) := by
   intro i hi
   have h1 : 2 * r + v / 2 ^ t % 2 = 2 ^ 1 * r + v / 2 ^ t % 2 := by rw [Nat.pow_one]
   rw [h1,Nat.testBit_two_pow_mul_add _ (by omega)]
   by_cases h0 : i < 1
   ·have : i = 0 := by omega
    subst this
    rw [if_pos h0,Nat.testBit_eq_decide_div_mod_eq (x := v)]
    simp [Nat.testBit_zero]
   ·rw [if_neg h0,hb (i - 1) (by omega)]
    congr 1; omega
  have hr2 : 2 * r + v / 2 ^ t % 2 < 2 ^ (t + 1) := by rw [Nat.pow_succ]; omega
  obtain ⟨r',h1,h2,h3⟩ := ih f (t + 1) (2 * r + v / 2 ^ t % 2) (by omega) (by omega) (by omega) hr2 hbit
  refine ⟨r',(loop_next ?_).trans h1,h2,h3⟩
  unfold turnS
  exact cnd_t (by simp; omega) (bnd sh (bnd (x := ((v / 2 ^ t % 2 : Nat) : Int)) (by rw [hand]) (bnd (x := ((2 * r + v / 2 ^ t % 2 : Nat) : Int)) (by rw [hor]) (bnd hsr (bnd (x := ((n - (t + 1) : Nat) : Int)) (by rw [w]) rfl)))))
theorem turn_eq (v n : Nat) (hn : n ≤ 24) (hv : v < 2 ^ n) : ∃ r : Nat,bits_Turn (v : Int) (n : Int) = some ((r : Int),0) ∧ r < 2 ^ n ∧ ∀ i,i < n → r.testBit i = v.testBit (n - 1 - i) := by
 have hp : 2 ^ n ≤ 2 ^ 24 := Nat.pow_le_pow_right (by omega) hn
 have e24 : (2 : Nat) ^ 24 = 16777216 := by decide
 obtain ⟨r,h1,h2,h3⟩ := turn_loop v n hn hv n BIG 0 0 (by omega) (Nat.zero_le _) (by unfold BIG; omega) (by simp) (by omega)
 rw [Nat.sub_zero,Nat.pow_zero,Nat.div_one] at h1
 refine ⟨r,?_,h2,h3⟩
 unfold bits_Turn
 have w1 : IntKind.u32.wrap (v : Int) = (v : Int) := wrap_u32c (by omega) (by omega)
 have w2 : IntKind.i64.wrap (r : Int) = (r : Int) := wrap_i64 (by omega) (by omega)
 exact bnd (fits_eq v n hn hv) (cnd_f rfl (bnd (x := (v : Int)) (by rw [w1]) (bndL h1 (bnd (x := (r : Int)) (by rw [w2]) rfl))))
theorem bitC_set (s : List Int) (j q : Nat) (x : Int) (hj : j < s.length) : bitC (s.set j x) q = if q / 8 = j then x.toNat.testBit (q % 8) else bitC s q := by
 simp only [bitC,List.getD_eq_getElem?_getD,List.getElem?_set]
 by_cases h : j = q / 8
 ·subst h; simp [hj]
 ·rw [if_neg h,if_neg (fun e => h e.symm)]
def Sp : List (Nat × Nat) → Nat → List Int → Prop
 | [],_,_ => True
 | p :: ps,N,B => (∀ t,t < p.2 → bitC B (N + t) = p.1.testBit t) ∧ Sp ps (N + p.2) B
def wid (ps : List (Nat × Nat)) : Nat := (ps.map (·.2)).sum
end Go.Abs.Sh
