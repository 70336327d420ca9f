import Derived.Test.YtglabbpbianmnaaGreatDoorBunK
namespace Go.Abs.Sh
set_option linter.unusedVariables false
set_option linter.unusedSimpArgs false
set_option maxRecDepth 10000
theorem ofInt64 (a:Nat) (ha:a<9223372036854775808):(BitVec.ofInt 64 (a:Int)).toNat=a:=by
 rw [BitVec.ofInt_natCast,BitVec.toNat_ofNat]; exact Nat.mod_eq_of_lt (by omega)
theorem and1_i64 (a:Nat) (ha:a<9223372036854775808):bits .and .i64 (a:Int) 1=((a % 2:Nat):Int):=by
 show IntKind.i64.wrap ((BitVec.ofInt 64 (a:Int) &&& BitVec.ofInt 64 ((1:Nat):Int)).toNat:Int)=_
 rw [BitVec.toNat_and,ofInt64 a ha,ofInt64 1 (by omega),Nat.and_one_is_mod,wrap_i64 (by omega) (by omega)]
theorem shr_nat (k:IntKind) (a m:Nat) (hm:m≤k.bits):shrO k (a:Int) (m:Int)=some ((a / 2 ^ m:Nat):Int):=by
 simp only [shrO]
 rw [if_pos (by omega),Int.toNat_natCast,Nat.min_eq_left hm]
 have:(0:Int)≤2 ^ m:=Int.pow_nonneg (by omega)
 rw [Int.fdiv_eq_ediv_of_nonneg _ this]
 congr 1
theorem wrap_u32 {n:Int} (h0:0≤n) (h1:n<4294967296):IntKind.u32.wrap n=n:=by
 simp only [IntKind.wrap,IntKind.bits,IntKind.signed]
 have e:(2:Int) ^ 32=4294967296:=by decide
 simp only [e,Bool.false_and,Bool.false_eq_true,if_false]
 omega
theorem u32_ofInt (a:Nat) (ha:a<4294967296):(BitVec.ofInt 32 (a:Int)).toNat=a:=by
 rw [BitVec.ofInt_natCast,BitVec.toNat_ofNat]; exact Nat.mod_eq_of_lt (by omega)
theorem xor_u32 (a b:Nat) (ha:a<4294967296) (hb:b<4294967296):bits .xor .u32 (a:Int) (b:Int)=((a ^^^ b:Nat):Int):=by
 have hx:a ^^^ b<2 ^ 32:=Nat.xor_lt_two_pow (by omega) (by omega)
 show IntKind.u32.wrap ((BitVec.ofInt 32 (a:Int) ^^^ BitVec.ofInt 32 (b:Int)).toNat:Int)=_
 rw [BitVec.toNat_xor,u32_ofInt a ha,u32_ofInt b hb,wrap_u32 (by omega) (by omega)]
def tab16:List Nat:=[0,4225,8450,12675,16900,21125,25350,29575,33800,38025,42250,46475,50700,54925,59150,63375]
def nib (r:Nat):Nat:=r / 16 ^^^ tab16.getD (r % 16) 0
def byteStep (r x:Nat):Nat:=nib (nib (r ^^^ x))
def short (l:List Nat):Nat:=l.foldl byteStep 65535 ^^^ 65535
def nats (l:List Int):List Nat:=l.map Int.toNat
theorem nats_bytes {l:List Int} (h:∀ n∈l,0≤n∧n<256):∀ x∈nats l,x<256:=by
 intro x hx
 obtain ⟨n,hn,rfl⟩:=List.mem_map.1 hx
 have:=h n hn; omega
def s0 (d x:Nat):Nat:=x / 2 ^^^ (if x % 2=1 then d else 0)
def sn (d:Nat):Nat→Nat→Nat
 | 0,x=>x
 | n+1,x=>sn d n (s0 d x)
theorem xor_mod2 (a b:Nat):(a ^^^ b) % 2=(a % 2+b % 2) % 2:=by
 have h:=Nat.xor_mod_two_pow (a:=a) (b:=b) (n:=1)
 simp only [Nat.pow_one] at h
 rw [h]
 have h1:a % 2=0∨a % 2=1:=by omega
 have h2:b % 2=0∨b % 2=1:=by omega
 rcases h1 with h1 | h1 <;> rcases h2 with h2 | h2 <;> rw [h1,h2] <;> rfl
theorem s0_xor (d a b:Nat):s0 d (a ^^^ b)=s0 d a ^^^ s0 d b:=by
 unfold s0
 rw [Nat.xor_div_two,xor_mod2]
 have h1:a % 2=0∨a % 2=1:=by omega
 have h2:b % 2=0∨b % 2=1:=by omega
 rcases h1 with h1 | h1 <;> rcases h2 with h2 | h2 <;> rw [h1,h2]
 ·simp
 ·simp [Nat.xor_assoc]
 ·simp; rw [Nat.xor_assoc,Nat.xor_assoc,Nat.xor_comm d]
 ·simp; rw [Nat.xor_assoc,Nat.xor_comm (b / 2) d,← Nat.xor_assoc d d,Nat.xor_self,Nat.zero_xor]
theorem sn_xor (d n a b:Nat):sn d n (a ^^^ b)=sn d n a ^^^ sn d n b:=by
 induction n generalizing a b with
 | zero=>rfl
 | succ n ih=>simp only [sn]; rw [s0_xor,ih]
theorem s0_even (d x:Nat):s0 d (2 * x)=x:=by
 unfold s0; rw [if_neg (by omega),Nat.xor_zero]; omega
theorem sn_shift (d n x:Nat):sn d n (2 ^ n * x)=x:=by
 induction n generalizing x with
 | zero=>simp [sn]
 | succ n ih=>rw [sn,Nat.pow_succ,Nat.mul_comm (2 ^ n) 2,Nat.mul_assoc,s0_even,ih]
theorem sn_add (d m n x:Nat):sn d (m+n) x=sn d n (sn d m x):=by
 induction m generalizing x with
 | zero=>simp [sn]
 | succ m ih=>rw [Nat.succ_add,sn,sn,ih]
theorem s0_lt (d x w:Nat) (hd:d<2 ^ w) (hx:x<2 ^ w):s0 d x<2 ^ w:=by
 unfold s0
 refine Nat.xor_lt_two_pow (by omega) ?_
 split
 ·exact hd
 ·exact Nat.pow_pos (by omega)
theorem sn_lt (d x w n:Nat) (hd:d<2 ^ w) (hx:x<2 ^ w):sn d n x<2 ^ w:=by
 induction n generalizing x with
 | zero=>exact hx
 | succ n ih=>exact ih _ (s0_lt d x w hd hx)
theorem xor_add_shift (a b k:Nat) (ha:a<2 ^ k):a+2 ^ k * b=a ^^^ 2 ^ k * b:=by
 apply Nat.eq_of_testBit_eq
 intro i
 rw [Nat.testBit_xor,Nat.add_comm,Nat.testBit_two_pow_mul_add _ ha,Nat.testBit_two_pow_mul]
 by_cases hi:i<k
 ·have:¬ (i≥k):=by omega
  simp [hi,this]
 ·have h2:k≤i:=by omega
  have h3:a.testBit i=false:=Nat.testBit_lt_two_pow (Nat.lt_of_lt_of_le ha (Nat.pow_le_pow_right (by omega) h2))
  simp [hi,h2,h3]
theorem xor_zero {a b:Nat} (h:a ^^^ b=0):a=b:=by
 have:(a ^^^ b) ^^^ b=b:=by rw [h,Nat.zero_xor]
 rw [Nat.xor_assoc,Nat.xor_self,Nat.xor_zero] at this
 exact this
def bv:List Nat→Nat
 | []=>0
 | x::l=>x+2 ^ 8 * bv l
def reg (d:Nat) (l:List Nat) (r:Nat):Nat:=sn d (8 * l.length) (r ^^^ bv l)
theorem reg_nil (d r:Nat):reg d [] r=r:=by simp [reg,bv,sn]
theorem reg_cons (d r x:Nat) (l:List Nat) (hx:x<256):reg d (x::l) r=reg d l (sn d 8 (r ^^^ x)):=by
 unfold reg
 have h:bv (x::l)=x ^^^ 2 ^ 8 * bv l:=by
  rw [bv,← xor_add_shift _ _ 8 hx]
 rw [h,List.length_cons,show 8 * (l.length+1)=8+8 * l.length by omega,sn_add,← Nat.xor_assoc,sn_xor d 8,sn_shift]
theorem sn4_split (d r:Nat):sn d 4 r=r / 16 ^^^ sn d 4 (r % 16):=by
 have h:r=r % 16 ^^^ 2 ^ 4 * (r / 16):=by
  rw [← xor_add_shift _ _ 4 (by omega)]; omega
 conv=>lhs; rw [h]
 rw [sn_xor,sn_shift,Nat.xor_comm]
theorem sn8_split (d r:Nat):sn d 8 r=sn d 4 (sn d 4 r):=sn_add d 4 4 r
theorem shr4' (r:Nat):shrO .u32 (r:Int) 4=some ((r / 16:Nat):Int):=by
 have:=shr_nat .u32 r 4 (by decide)
 rw [show ((4:Nat):Int)=4 from rfl] at this
 rw [this,show (2:Nat) ^ 4=16 from rfl]
def crc (d w:Nat) (l:List Nat):Nat:=reg d l (2 ^ w-1) ^^^ (2 ^ w-1)
theorem reg_lt (d w:Nat) (hd:d<2 ^ w) (hw:8≤w):∀ (l:List Nat) (r:Nat),r<2 ^ w→(∀ x∈l,x<256)→reg d l r<2 ^ w
 | [],r,hr,_=>by rw [reg_nil]; exact hr
 | x::l,r,hr,h=>by
  have hx:=h x (by simp)
  rw [reg_cons _ _ _ _ hx]
  have h2:2 ^ 8≤2 ^ w:=Nat.pow_le_pow_right (by omega) hw
  exact reg_lt d w hd hw l _ (sn_lt d _ w 8 hd (Nat.xor_lt_two_pow hr (by omega))) fun y hy=>h y (by simp [hy])
theorem sum_gen (d w:Nat) (T:List Nat) (W D:Int) (hw:8≤w) (hw2:w≤32) (hd:d<2 ^ w) (hl16:T.length=16) (htab:sums_table D=some (T.map (fun n:Nat=>(n:Int))))
  (hT:∀ i,i<16→T.getD i 0=sn d 4 i) (hones:((shlO .u32 1 W).bind fun v=>some (IntKind.u32.wrap (v-1)))=some ((2 ^ w-1:Nat):Int))
  (b:List Int) (hb:∀ n∈b,0≤n∧n<256) (hl:b.length<4294967296):sums_sum b W D=some ((crc d w (nats b):Nat):Int):=by
 have hpw:2 ^ w≤2 ^ 32:=Nat.pow_le_pow_right (by omega) hw2
 have hpw0:0<2 ^ w:=Nat.pow_pos (by omega)
 have h256:2 ^ 8≤2 ^ w:=Nat.pow_le_pow_right (by omega) hw
 have e32:(2:Nat) ^ 32=4294967296:=by decide
 have e8:(2:Nat) ^ 8=256:=by decide
 have hat:∀ i,i<16→getO (T.map (fun n:Nat=>(n:Int))) i=some ((sn d 4 i:Nat):Int):=by
  intro i hi
  rw [← hT i hi]
  have:i<T.length:=by omega
  simp [getO,List.getD,this]
 have hTl:∀ i,i<16→sn d 4 i<2 ^ w:=fun i hi=>sn_lt d i w 4 hd (by omega)
 have key:∀ (k fuel i r:Nat),b.length-i=k→i≤b.length→k<fuel→r<2 ^ w →
   loopF (S:=(Int×Int)) (O:=(Int)⊕Int) (fun ((s25,s26):Int×Int) =>
   cond ((decide (s26<(b.length:Int))))
    ((ixO s26 b.length).bind fun v7 =>
    (getO b v7).bind fun v8 =>
    (some (IntKind.u32.wrap v8)).bind fun v9 =>
    (some (bits .xor .u32 s25 v9)).bind fun v10 =>
    (shrO .u32 v10 4).bind fun v11 =>
    (remO v10 16).bind fun v12 =>
    (ixO v12 16).bind fun v13 =>
    (getO (T.map (fun n:Nat=>(n:Int))) v13).bind fun v14 =>
    (some (bits .xor .u32 v11 v14)).bind fun v15 =>
    (shrO .u32 v15 4).bind fun v16 =>
    (remO v15 16).bind fun v17 =>
    (ixO v17 16).bind fun v18 =>
    (getO (T.map (fun n:Nat=>(n:Int))) v18).bind fun v19 =>
    (some (bits .xor .u32 v16 v19)).bind fun v20 =>
    (some (IntKind.i64.wrap (s26+1))).bind fun v21 =>
    some (.inl (v20,v21)))
    (some (.inr (.inl s25)))) fuel ((r:Int),(i:Int))=some (.inl ((reg d (nats (b.drop i)) r:Nat):Int)):=by
  intro k
  induction k with
  | zero =>
   intro fuel i r hk hi hf hr
   obtain ⟨f,rfl⟩:∃ f,fuel=f+1:=⟨fuel-1,by omega⟩
   have hia:i=b.length:=by omega
   subst hia
   refine loop_exit (cnd_f (by simp) ?_)
   rw [List.drop_length,show nats []=[] from rfl,reg_nil]
  | succ k ih =>
   intro fuel i r hk hi hf hr
   obtain ⟨f,rfl⟩:∃ f,fuel=f+1:=⟨fuel-1,by omega⟩
   have hlt:i<b.length:=by omega
   have hbi:=hb b[i] (List.getElem_mem hlt)
   obtain ⟨x,hx⟩:∃ x:Nat,b[i]=(x:Int):=⟨b[i].toNat,by omega⟩
   have hx256:x<256:=by omega
   have hw1:IntKind.i64.wrap ((i:Int)+1)=((i+1:Nat):Int):=by
    rw [wrap_i64 (by omega) (by omega)]; simp
   have a1:r ^^^ x<2 ^ w:=Nat.xor_lt_two_pow hr (by omega)
   have m1:(r ^^^ x) % 16<16:=Nat.mod_lt _ (by omega)
   have a2:sn d 4 (r ^^^ x)<2 ^ w:=sn_lt d _ w 4 hd a1
   have m2:sn d 4 (r ^^^ x) % 16<16:=Nat.mod_lt _ (by omega)
   have a3:sn d 8 (r ^^^ x)<2 ^ w:=sn_lt d _ w 8 hd a1
   have e1:(r ^^^ x) / 16 ^^^ sn d 4 ((r ^^^ x) % 16)=sn d 4 (r ^^^ x):=(sn4_split d _).symm
   have e2:sn d 4 (r ^^^ x) / 16 ^^^ sn d 4 (sn d 4 (r ^^^ x) % 16)=sn d 8 (r ^^^ x):=by rw [← sn4_split,sn8_split]
   have hdr:b.drop i=b[i]::b.drop (i+1):=List.drop_eq_getElem_cons hlt
   have t1:=hTl _ m1
   have t2:=hTl _ m2
   have r16a:=rem_nat (r ^^^ x) 16 (by omega)
   have r16b:=rem_nat (sn d 4 (r ^^^ x)) 16 (by omega)
   rw [show ((16:Nat):Int)=16 from rfl] at r16a r16b
   refine (loop_next (cnd_t (by simp; omega) (bnd (ixO_of hlt) (bnd (x:=(x:Int)) (by rw [getO_of hlt,hx]) (bnd (x:=(x:Int)) (by rw [wrap_u32 (by omega) (by omega)])
    (bnd (x:=((r ^^^ x:Nat):Int)) (by rw [xor_u32 r x (by omega) (by omega)]) (bnd (shr4' _) (bnd r16a (bnd (ixO_of m1) (bnd (hat _ m1)
    (bnd (x:=((sn d 4 (r ^^^ x):Nat):Int)) (by rw [xor_u32 _ _ (by omega) (by omega),e1]) (bnd (shr4' _) (bnd r16b (bnd (ixO_of m2) (bnd (hat _ m2)
    (bnd (x:=((sn d 8 (r ^^^ x):Nat):Int)) (by rw [xor_u32 _ _ (by omega) (by omega),e2]) (bnd (x:=((i+1:Nat):Int)) (by rw [hw1]) rfl))))))))))))))))).trans ?_
   rw [ih f (i+1) _ (by omega) hlt (by omega) a3,hdr]
   have:nats (b[i]::b.drop (i+1))=x::nats (b.drop (i+1)):=by simp [nats,hx]
   rw [this,reg_cons _ _ _ _ hx256]
 have hz:2 ^ w-1<2 ^ w:=by omega
 have hlt:=reg_lt d w hd hw (nats b) (2 ^ w-1) hz (nats_bytes hb)
 have hc:crc d w (nats b)<2 ^ w:=Nat.xor_lt_two_pow hlt hz
 unfold sums_sum
 have l16:lnO 16 (T.map (fun n:Nat=>(n:Int)))=some (T.map (fun n:Nat=>(n:Int))):=by simp [lnO,hl16]
 have l0:lnO 16 (List.replicate 16 (0:Int))=some (List.replicate 16 (0:Int)):=by decide
 obtain ⟨v,hv,hv2⟩:=bind_some hones
 refine bnd htab (bnd l0 (bnd l16 (bnd hv (bnd hv2 ?_))))
 refine bndL (key b.length BIG 0 (2 ^ w-1) (by omega) (Nat.zero_le _) (by unfold BIG; omega) hz) ?_
 refine bnd (x:=((crc d w (nats b):Nat):Int)) (by rw [List.drop_zero,xor_u32 _ _ (by omega) (by omega)]; rfl) (bnd (x:=((crc d w (nats b):Nat):Int)) (by rw [wrap_i64 (by omega) (by omega)]) rfl)
def tabL:List Nat:=(List.range 16).map (sn 3988292384 4)
theorem tableL:sums_table 3988292384=some (tabL.map (fun n:Nat=>(n:Int))):=by kernel_rfl
theorem long_eq (b:List Int) (hb:∀ n∈b,0≤n∧n<256) (hl:b.length<4294967296):sums_Long b=some ((crc 3988292384 32 (nats b):Nat):Int):=by
 unfold sums_Long
 refine bnd (sum_gen 3988292384 32 tabL 32 3988292384 (by omega) (by omega) (by decide) (by decide) tableL ?_ (by decide) b hb hl) rfl
 intro i hi
 have:∀ i,i<16→tabL.getD i 0=sn 3988292384 4 i:=by decide
 exact this i hi
theorem wrap_u64s {n:Int} (h0:0≤n) (h1:n<18446744073709551616):IntKind.u64.wrap n=n:=by
 simp only [IntKind.wrap,IntKind.bits,IntKind.signed]
 have e:(2:Int) ^ 64=18446744073709551616:=by decide
 simp only [e,Bool.false_and,Bool.false_eq_true,if_false]
 omega
theorem wrap_u64s_nn (n:Int):0≤IntKind.u64.wrap n:=by
 simp only [IntKind.wrap,IntKind.bits,IntKind.signed]
 have e:(2:Int) ^ 64=18446744073709551616:=by decide
 simp only [e,Bool.false_and,Bool.false_eq_true,if_false]
 omega
end Go.Abs.Sh
