import Derived.Test.YtglabbpbianmnaaGreatDoorBunF
import Derived.Lib.Atoi
import Derived.Lib.Bytealg
import Derived.KernelRfl
set_option linter.unusedVariables false
set_option linter.unusedSimpArgs false
set_option linter.unusedSectionVars false
namespace Go.Abs.Sh
set_option linter.unusedVariables false
set_option linter.unusedSimpArgs false
set_option maxRecDepth 100000
/-! Numbers,params. -/
/-! What a row of digits spells. -/
set_option maxRecDepth 100000
set_option maxRecDepth 100000
set_option maxRecDepth 10000
theorem ofInt64 (a:Nat) (ha:a<9223372036854775808):(BitVec.ofInt 64 (a:Int)).toNat=a:=by
 rw [BitVec.ofInt_natCast,BitVec.toNat_ofNat]; exact Nat.mod_eq_of_lt (by omega)
theorem and1_i64 (a:Nat) (ha:a<9223372036854775808):bits .and .i64 (a:Int) 1=((a % 2:Nat):Int):=by
 show IntKind.i64.wrap ((BitVec.ofInt 64 (a:Int) &&& BitVec.ofInt 64 ((1:Nat):Int)).toNat:Int)=_
 rw [BitVec.toNat_and,ofInt64 a ha,ofInt64 1 (by omega),Nat.and_one_is_mod,wrap_i64 (by omega) (by omega)]
theorem shr_nat (k:IntKind) (a m:Nat) (hm:m≤k.bits):shrO k (a:Int) (m:Int)=some ((a / 2 ^ m:Nat):Int):=by
 simp only [shrO]
 rw [if_pos (by omega),Int.toNat_natCast,Nat.min_eq_left hm]
 have:(0:Int)≤2 ^ m:=Int.pow_nonneg (by omega)
 rw [Int.fdiv_eq_ediv_of_nonneg _ this]
 congr 1
theorem wrap_u32 {n:Int} (h0:0≤n) (h1:n<4294967296):IntKind.u32.wrap n=n:=by
 simp only [IntKind.wrap,IntKind.bits,IntKind.signed]
 have e:(2:Int) ^ 32=4294967296:=by decide
 simp only [e,Bool.false_and,Bool.false_eq_true,if_false]
 omega
theorem u32_ofInt (a:Nat) (ha:a<4294967296):(BitVec.ofInt 32 (a:Int)).toNat=a:=by
 rw [BitVec.ofInt_natCast,BitVec.toNat_ofNat]; exact Nat.mod_eq_of_lt (by omega)
theorem xor_u32 (a b:Nat) (ha:a<4294967296) (hb:b<4294967296):bits .xor .u32 (a:Int) (b:Int)=((a ^^^ b:Nat):Int):=by
 have hx:a ^^^ b<2 ^ 32:=Nat.xor_lt_two_pow (by omega) (by omega)
 show IntKind.u32.wrap ((BitVec.ofInt 32 (a:Int) ^^^ BitVec.ofInt 32 (b:Int)).toNat:Int)=_
 rw [BitVec.toNat_xor,u32_ofInt a ha,u32_ofInt b hb,wrap_u32 (by omega) (by omega)]
def tab16:List Nat:=[0,4225,8450,12675,16900,21125,25350,29575,33800,38025,42250,46475,50700,54925,59150,63375]
def nib (r:Nat):Nat:=r / 16 ^^^ tab16.getD (r % 16) 0
def byteStep (r x:Nat):Nat:=nib (nib (r ^^^ x))
def short (l:List Nat):Nat:=l.foldl byteStep 65535 ^^^ 65535
def nats (l:List Int):List Nat:=l.map Int.toNat
theorem nats_bytes {l:List Int} (h:∀ n∈l,0≤n∧n<256):∀ x∈nats l,x<256:=by
 intro x hx
 obtain ⟨n,hn,rfl⟩:=List.mem_map.1 hx
 have:=h n hn; omega
def s0 (d x:Nat):Nat:=x / 2 ^^^ (if x % 2=1 then d else 0)
def sn (d:Nat):Nat→Nat→Nat
 | 0,x=>x
 | n+1,x=>sn d n (s0 d x)
theorem xor_mod2 (a b:Nat):(a ^^^ b) % 2=(a % 2+b % 2) % 2:=by
 have h:=Nat.xor_mod_two_pow (a:=a) (b:=b) (n:=1)
 simp only [Nat.pow_one] at h
 rw [h]
 have h1:a % 2=0∨a % 2=1:=by omega
 have h2:b % 2=0∨b % 2=1:=by omega
 rcases h1 with h1 | h1 <;> rcases h2 with h2 | h2 <;> rw [h1,h2] <;> rfl
theorem s0_xor (d a b:Nat):s0 d (a ^^^ b)=s0 d a ^^^ s0 d b:=by
 unfold s0
 rw [Nat.xor_div_two,xor_mod2]
 have h1:a % 2=0∨a % 2=1:=by omega
 have h2:b % 2=0∨b % 2=1:=by omega
 rcases h1 with h1 | h1 <;> rcases h2 with h2 | h2 <;> rw [h1,h2]
 ·simp
 ·simp [Nat.xor_assoc]
 ·simp; rw [Nat.xor_assoc,Nat.xor_assoc,Nat.xor_comm d]
 ·simp; rw [Nat.xor_assoc,Nat.xor_comm (b / 2) d,← Nat.xor_assoc d d,Nat.xor_self,Nat.zero_xor]
theorem sn_xor (d n a b:Nat):sn d n (a ^^^ b)=sn d n a ^^^ sn d n b:=by
 induction n generalizing a b with
 | zero=>rfl
 | succ n ih=>simp only [sn]; rw [s0_xor,ih]
theorem s0_even (d x:Nat):s0 d (2 * x)=x:=by
 unfold s0; rw [if_neg (by omega),Nat.xor_zero]; omega
theorem sn_shift (d n x:Nat):sn d n (2 ^ n * x)=x:=by
 induction n generalizing x with
 | zero=>simp [sn]
 | succ n ih=>rw [sn,Nat.pow_succ,Nat.mul_comm (2 ^ n) 2,Nat.mul_assoc,s0_even,ih]
theorem sn_add (d m n x:Nat):sn d (m+n) x=sn d n (sn d m x):=by
 induction m generalizing x with
 | zero=>simp [sn]
 | succ m ih=>rw [Nat.succ_add,sn,sn,ih]
theorem s0_lt (d x w:Nat) (hd:d<2 ^ w) (hx:x<2 ^ w):s0 d x<2 ^ w:=by
 unfold s0
 refine Nat.xor_lt_two_pow (by omega) ?_
 split
 ·exact hd
 ·exact Nat.pow_pos (by omega)
theorem sn_lt (d x w n:Nat) (hd:d<2 ^ w) (hx:x<2 ^ w):sn d n x<2 ^ w:=by
 induction n generalizing x with
 | zero=>exact hx
 | succ n ih=>exact ih _ (s0_lt d x w hd hx)
theorem xor_add_shift (a b k:Nat) (ha:a<2 ^ k):a+2 ^ k * b=a ^^^ 2 ^ k * b:=by
 apply Nat.eq_of_testBit_eq
 intro i
 rw [Nat.testBit_xor,Nat.add_comm,Nat.testBit_two_pow_mul_add _ ha,Nat.testBit_two_pow_mul]
 by_cases hi:i<k
 ·have:¬ (i≥k):=by omega
  simp [hi,this]
 ·have h2:k≤i:=by omega
  have h3:a.testBit i=false:=Nat.testBit_lt_two_pow (Nat.lt_of_lt_of_le ha (Nat.pow_le_pow_right (by omega) h2))
  simp [hi,h2,h3]
theorem xor_zero {a b:Nat} (h:a ^^^ b=0):a=b:=by
 have:(a ^^^ b) ^^^ b=b:=by rw [h,Nat.zero_xor]
 rw [Nat.xor_assoc,Nat.xor_self,Nat.xor_zero] at this
 exact this
def bv:List Nat→Nat
 | []=>0
 | x::l=>x+2 ^ 8 * bv l
def reg (d:Nat) (l:List Nat) (r:Nat):Nat:=sn d (8 * l.length) (r ^^^ bv l)
theorem reg_nil (d r:Nat):reg d [] r=r:=by simp [reg,bv,sn]
theorem reg_cons (d r x:Nat) (l:List Nat) (hx:x<256):reg d (x::l) r=reg d l (sn d 8 (r ^^^ x)):=by
 unfold reg
 have h:bv (x::l)=x ^^^ 2 ^ 8 * bv l:=by
  rw [bv,← xor_add_shift _ _ 8 hx]
 rw [h,List.length_cons,show 8 * (l.length+1)=8+8 * l.length by omega,sn_add,← Nat.xor_assoc,sn_xor d 8,sn_shift]
theorem sn4_split (d r:Nat):sn d 4 r=r / 16 ^^^ sn d 4 (r % 16):=by
 have h:r=r % 16 ^^^ 2 ^ 4 * (r / 16):=by
  rw [← xor_add_shift _ _ 4 (by omega)]; omega
 conv=>lhs; rw [h]
 rw [sn_xor,sn_shift,Nat.xor_comm]
theorem sn8_split (d r:Nat):sn d 8 r=sn d 4 (sn d 4 r):=sn_add d 4 4 r
theorem shr4' (r:Nat):shrO .u32 (r:Int) 4=some ((r / 16:Nat):Int):=by
 have:=shr_nat .u32 r 4 (by decide)
 rw [show ((4:Nat):Int)=4 from rfl] at this
 rw [this,show (2:Nat) ^ 4=16 from rfl]
def crc (d w:Nat) (l:List Nat):Nat:=reg d l (2 ^ w-1) ^^^ (2 ^ w-1)
theorem reg_lt (d w:Nat) (hd:d<2 ^ w) (hw:8≤w):∀ (l:List Nat) (r:Nat),r<2 ^ w→(∀ x∈l,x<256)→reg d l r<2 ^ w
 | [],r,hr,_=>by rw [reg_nil]; exact hr
 | x::l,r,hr,h=>by
  have hx:=h x (by simp)
  rw [reg_cons _ _ _ _ hx]
  have h2:2 ^ 8≤2 ^ w:=Nat.pow_le_pow_right (by omega) hw
  exact reg_lt d w hd hw l _ (sn_lt d _ w 8 hd (Nat.xor_lt_two_pow hr (by omega))) fun y hy=>h y (by simp [hy])
theorem sum_gen (d w:Nat) (T:List Nat) (W D:Int) (hw:8≤w) (hw2:w≤32) (hd:d<2 ^ w) (hl16:T.length=16) (htab:sums_table D=some (T.map (fun n:Nat=>(n:Int))))
  (hT:∀ i,i<16→T.getD i 0=sn d 4 i) (hones:((shlO .u32 1 W).bind fun v=>some (IntKind.u32.wrap (v-1)))=some ((2 ^ w-1:Nat):Int))
  (b:List Int) (hb:∀ n∈b,0≤n∧n<256) (hl:b.length<4294967296):sums_sum b W D=some ((crc d w (nats b):Nat):Int):=by
 have hpw:2 ^ w≤2 ^ 32:=Nat.pow_le_pow_right (by omega) hw2
 have hpw0:0<2 ^ w:=Nat.pow_pos (by omega)
 have h256:2 ^ 8≤2 ^ w:=Nat.pow_le_pow_right (by omega) hw
 have e32:(2:Nat) ^ 32=4294967296:=by decide
 have e8:(2:Nat) ^ 8=256:=by decide
 have hat:∀ i,i<16→getO (T.map (fun n:Nat=>(n:Int))) i=some ((sn d 4 i:Nat):Int):=by
  intro i hi
  rw [← hT i hi]
  have:i<T.length:=by omega
  simp [getO,List.getD,this]
 have hTl:∀ i,i<16→sn d 4 i<2 ^ w:=fun i hi=>sn_lt d i w 4 hd (by omega)
 have key:∀ (k fuel i r:Nat),b.length-i=k→i≤b.length→k<fuel→r<2 ^ w →
   loopF (S:=(Int×Int)) (O:=(Int)⊕Int) (fun ((s25,s26):Int×Int) =>
   cond ((decide (s26<(b.length:Int))))
    ((ixO s26 b.length).bind fun v7 =>
    (getO b v7).bind fun v8 =>
    (some (IntKind.u32.wrap v8)).bind fun v9 =>
    (some (bits .xor .u32 s25 v9)).bind fun v10 =>
    (shrO .u32 v10 4).bind fun v11 =>
    (remO v10 16).bind fun v12 =>
    (ixO v12 16).bind fun v13 =>
    (getO (T.map (fun n:Nat=>(n:Int))) v13).bind fun v14 =>
    (some (bits .xor .u32 v11 v14)).bind fun v15 =>
    (shrO .u32 v15 4).bind fun v16 =>
    (remO v15 16).bind fun v17 =>
    (ixO v17 16).bind fun v18 =>
    (getO (T.map (fun n:Nat=>(n:Int))) v18).bind fun v19 =>
    (some (bits .xor .u32 v16 v19)).bind fun v20 =>
    (some (IntKind.i64.wrap (s26+1))).bind fun v21 =>
    some (.inl (v20,v21)))
    (some (.inr (.inl s25)))) fuel ((r:Int),(i:Int))=some (.inl ((reg d (nats (b.drop i)) r:Nat):Int)):=by
  intro k
  induction k with
  | zero =>
   intro fuel i r hk hi hf hr
   obtain ⟨f,rfl⟩:∃ f,fuel=f+1:=⟨fuel-1,by omega⟩
   have hia:i=b.length:=by omega
   subst hia
   refine loop_exit (cnd_f (by simp) ?_)
   rw [List.drop_length,show nats []=[] from rfl,reg_nil]
  | succ k ih =>
   intro fuel i r hk hi hf hr
   obtain ⟨f,rfl⟩:∃ f,fuel=f+1:=⟨fuel-1,by omega⟩
   have hlt:i<b.length:=by omega
   have hbi:=hb b[i] (List.getElem_mem hlt)
   obtain ⟨x,hx⟩:∃ x:Nat,b[i]=(x:Int):=⟨b[i].toNat,by omega⟩
   have hx256:x<256:=by omega
   have hw1:IntKind.i64.wrap ((i:Int)+1)=((i+1:Nat):Int):=by
    rw [wrap_i64 (by omega) (by omega)]; simp
   have a1:r ^^^ x<2 ^ w:=Nat.xor_lt_two_pow hr (by omega)
   have m1:(r ^^^ x) % 16<16:=Nat.mod_lt _ (by omega)
   have a2:sn d 4 (r ^^^ x)<2 ^ w:=sn_lt d _ w 4 hd a1
   have m2:sn d 4 (r ^^^ x) % 16<16:=Nat.mod_lt _ (by omega)
   have a3:sn d 8 (r ^^^ x)<2 ^ w:=sn_lt d _ w 8 hd a1
   have e1:(r ^^^ x) / 16 ^^^ sn d 4 ((r ^^^ x) % 16)=sn d 4 (r ^^^ x):=(sn4_split d _).symm
   have e2:sn d 4 (r ^^^ x) / 16 ^^^ sn d 4 (sn d 4 (r ^^^ x) % 16)=sn d 8 (r ^^^ x):=by rw [← sn4_split,sn8_split]
   have hdr:b.drop i=b[i]::b.drop (i+1):=List.drop_eq_getElem_cons hlt
   have t1:=hTl _ m1
   have t2:=hTl _ m2
   have r16a:=rem_nat (r ^^^ x) 16 (by omega)
   have r16b:=rem_nat (sn d 4 (r ^^^ x)) 16 (by omega)
   rw [show ((16:Nat):Int)=16 from rfl] at r16a r16b
   refine (loop_next (cnd_t (by simp; omega) (bnd (ixO_of hlt) (bnd (x:=(x:Int)) (by rw [getO_of hlt,hx]) (bnd (x:=(x:Int)) (by rw [wrap_u32 (by omega) (by omega)])
    (bnd (x:=((r ^^^ x:Nat):Int)) (by rw [xor_u32 r x (by omega) (by omega)]) (bnd (shr4' _) (bnd r16a (bnd (ixO_of m1) (bnd (hat _ m1)
    (bnd (x:=((sn d 4 (r ^^^ x):Nat):Int)) (by rw [xor_u32 _ _ (by omega) (by omega),e1]) (bnd (shr4' _) (bnd r16b (bnd (ixO_of m2) (bnd (hat _ m2)
    (bnd (x:=((sn d 8 (r ^^^ x):Nat):Int)) (by rw [xor_u32 _ _ (by omega) (by omega),e2]) (bnd (x:=((i+1:Nat):Int)) (by rw [hw1]) rfl))))))))))))))))).trans ?_
   rw [ih f (i+1) _ (by omega) hlt (by omega) a3,hdr]
   have:nats (b[i]::b.drop (i+1))=x::nats (b.drop (i+1)):=by simp [nats,hx]
   rw [this,reg_cons _ _ _ _ hx256]
 have hz:2 ^ w-1<2 ^ w:=by omega
 have hlt:=reg_lt d w hd hw (nats b) (2 ^ w-1) hz (nats_bytes hb)
 have hc:crc d w (nats b)<2 ^ w:=Nat.xor_lt_two_pow hlt hz
 unfold sums_sum
 have l16:lnO 16 (T.map (fun n:Nat=>(n:Int)))=some (T.map (fun n:Nat=>(n:Int))):=by simp [lnO,hl16]
 have l0:lnO 16 (List.replicate 16 (0:Int))=some (List.replicate 16 (0:Int)):=by decide
 obtain ⟨v,hv,hv2⟩:=bind_some hones
 refine bnd htab (bnd l0 (bnd l16 (bnd hv (bnd hv2 ?_))))
 refine bndL (key b.length BIG 0 (2 ^ w-1) (by omega) (Nat.zero_le _) (by unfold BIG; omega) hz) ?_
 refine bnd (x:=((crc d w (nats b):Nat):Int)) (by rw [List.drop_zero,xor_u32 _ _ (by omega) (by omega)]; rfl) (bnd (x:=((crc d w (nats b):Nat):Int)) (by rw [wrap_i64 (by omega) (by omega)]) rfl)
def tabL:List Nat:=(List.range 16).map (sn 3988292384 4)
theorem tableL:sums_table 3988292384=some (tabL.map (fun n:Nat=>(n:Int))):=by kernel_rfl
theorem long_eq (b:List Int) (hb:∀ n∈b,0≤n∧n<256) (hl:b.length<4294967296):sums_Long b=some ((crc 3988292384 32 (nats b):Nat):Int):=by
 unfold sums_Long
 refine bnd (sum_gen 3988292384 32 tabL 32 3988292384 (by omega) (by omega) (by decide) (by decide) tableL ?_ (by decide) b hb hl) rfl
 intro i hi
 have:∀ i,i<16→tabL.getD i 0=sn 3988292384 4 i:=by decide
 exact this i hi
theorem wrap_u64s {n:Int} (h0:0≤n) (h1:n<18446744073709551616):IntKind.u64.wrap n=n:=by
 simp only [IntKind.wrap,IntKind.bits,IntKind.signed]
 have e:(2:Int) ^ 64=18446744073709551616:=by decide
 simp only [e,Bool.false_and,Bool.false_eq_true,if_false]
 omega
set_option maxRecDepth 100000
set_option maxRecDepth 100000
theorem wakes17:wherrylaw17_wakes=some true:=by kernel_rfl
theorem crc32_lt (l:List Nat) (h:∀ x∈l,x<256):crc 3988292384 32 l<4294967296:=by
 have hz:2 ^ 32-1<2 ^ 32:=by decide
 exact Nat.xor_lt_two_pow (n:=32) (reg_lt 3988292384 32 (by decide) (by omega) l _ hz h) hz
theorem rcs_byt:∀ (l:List T_Path),byt (rcs l)
 | []=>byt_nil
 | p::l=>byt_app (byt_app (by intro x hx; simp only [rcptW,List.mem_cons,List.not_mem_nil,or_false] at hx; omega) (byt_app (byt_txt p) (by intro x hx; simp only [List.mem_cons,List.not_mem_nil,or_false] at hx; omega))) (rcs_byt l)
theorem cmd_byt {m:T_Mail} (h:Vm m):byt (cmd m):=by
 obtain ⟨ls,h1,h2,h3⟩:=h.bd
 have hl:=(lm_small h.lm).2.2.1
 have ht:tot ls≤20000:=by rw [← jn_len,← h3]; exact hl
 have hs:=stuff_ok h1 h2 (by omega:tot ls<1000000000)
 rw [← h3] at hs
 have e:stfB m.Body=jn (ls.map stf++[[46]]):=by unfold stfB; rw [hs]; rfl
 have hst:byt (stfB m.Body):=by
  rw [e]
  refine jn_byt fun l hl => ?_
  rcases List.mem_append.1 hl with hl | hl
  ·obtain ⟨k,hk,rfl⟩:=List.mem_map.1 hl
   exact stf_byt (h2 k hk)
  ·rw [List.mem_singleton.1 hl]; intro x hx; simp only [List.mem_cons,List.not_mem_nil,or_false] at hx; omega
 refine byt_app (byt_app (by intro x hx; simp only [mailW,List.mem_cons,List.not_mem_nil,or_false] at hx; omega) (byt_app (byt_txt _) (by intro x hx; simp only [List.mem_cons,List.not_mem_nil,or_false] at hx; omega))) (byt_app (rcs_byt _) (byt_app (by intro x hx; simp only [List.mem_cons,List.not_mem_nil,or_false] at hx; omega) hst))
theorem cmds_byt:∀ {l:List T_Mail},(∀ m∈l,Vm m)→byt (cmds l)
 | [],_=>byt_nil
 | m::l,h=>byt_app (cmd_byt (h m List.mem_cons_self)) (cmds_byt fun x hx=>h x (List.mem_cons_of_mem _ hx))
def quitL:List Int:=[81,85,73,84,13,10]
def comL (l:List T_Mail):List Int:=cmds l++quitL
def sumL (l:List Int):Nat:=crc 3988292384 32 (nats l)
theorem comL_byt {l:List T_Mail} (h:∀ m∈l,Vm m):byt (comL l):=byt_app (cmds_byt h) (by intro x hx; simp only [quitL,List.mem_cons,List.not_mem_nil,or_false] at hx; omega)
theorem sumL_eq {l:List Int} (hb:byt l) (hl:l.length<4294967296):sums_Long l=some ((sumL l:Nat):Int):=long_eq l hb hl
theorem sumL_lt {l:List Int} (hb:byt l):sumL l<4294967296:=crc32_lt _ (nats_bytes hb)
def numsL (b:T_Bundle):List Nat:=[b.Origin.toNat,b.Number.toNat,b.Mails.length,(comL b.Mails).length,sumL (comL b.Mails)]
def wholeL (b:T_Bundle):List Int:=(bunW++nmsL (numsL b))++13::10::comL b.Mails
set_option maxRecDepth 100000
/-! The end mark,and what stands ahead of it,of any bytes. -/
/-! A line that tells a path. -/
set_option maxRecDepth 100000
def dataL:List Int:=[68,65,84,65]
theorem d13:∀ x∈dataL,x≠13:=by decide
structure Pm (m:T_Mail):Prop where
 pf:patB m.From=true
 pt:∀ p∈m.To,patB p=true
 tl:m.To.length≤8
 bd:∃ ls,(∀ l∈ls,cln l)∧(∀ l∈ls,byt l)∧m.Body=jn ls
 bl:m.Body.length≤4096
 qu:m.Quiet=false
 he:m.Helo=e0
 ad:m.At=0
set_option maxRecDepth 100000
theorem all_getD {A:Type} (d:A) (p:A→Bool):∀ (l:List A),(∀ i,i<l.length→p (l.getD i d)=true)↔l.all p=true:=by
 intro l
 rw [List.all_eq_true]
 constructor
 ·intro h x hx
  obtain ⟨i,hi,rfl⟩:=List.getElem_of_mem hx
  have:=h i hi
  rwa [List.getD_eq_getElem?_getD,List.getElem?_eq_getElem hi,Option.getD_some] at this
 ·intro h i hi
  rw [List.getD_eq_getElem?_getD,List.getElem?_eq_getElem hi,Option.getD_some]
  exact h _ (List.getElem_mem hi)
theorem getOD {A:Type} {l:List A} {i:Nat} (d:A) (h:i<l.length):getO l i=some (l.getD i d):=by
 rw [List.getD_eq_getElem?_getD,List.getElem?_eq_getElem h,Option.getD_some]; exact getO_of h
theorem memD {A:Type} {l:List A} {i:Nat} (d:A) (h:i<l.length):l.getD i d∈l:=by
 rw [List.getD_eq_getElem?_getD,List.getElem?_eq_getElem h,Option.getD_some]; exact List.getElem_mem h
def rcB (p:T_Path):Bool:=patB p && !p.Null
def envB (m:T_Mail):Bool:=patB m.From&&(decide (1≤m.To.length∧m.To.length≤8)&&m.To.all rcB)
theorem env_exact {m:T_Mail} (h:LM m):envelope_Valid m=some (envB m):=by
 obtain ⟨hs1,hs2,hs3,hs4⟩:=lm_small h
 unfold envelope_Valid envB
 cases hF:patB m.From
 ·exact bndL (s:=true) (bnd (check_eq _ hs1) (cnd_t (by rw [hF]; rfl) rfl)) (cnd_t rfl rfl)
 by_cases h1:1≤m.To.length∧m.To.length≤8
 case neg =>
  rw [decide_eq_false h1]
  refine bndL (s:=true) (bnd (check_eq _ hs1) (cnd_f (by rw [hF]; rfl) ?_)) (cnd_t rfl rfl)
  by_cases h2:m.To.length<1
  ·exact cnd_t (decide_eq_true (by omega)) rfl
  ·exact cnd_f (decide_eq_false (by omega)) (inl_of (decide_eq_true (by omega)))
 rw [decide_eq_true h1]
 have hstep:∀ i:Nat,i<m.To.length→((path_Check (m.To.getD i noP)).bind fun v10=>cond ((v10 != 0)) (some (.inl true)) (some (.inl (m.To.getD i noP).Null)):Option (Bool⊕(Int⊕(Unit⊕Bool))))=some (.inl (!rcB (m.To.getD i noP))):=by
  intro i hi
  refine bnd (check_eq _ (hs2 _ (memD noP hi))) ?_
  unfold rcB
  cases patB (m.To.getD i noP)
  ·rfl
  ·exact cnd_f rfl (inl_of (by simp))
 have hloop:=loop_all (f:=evS m) (R:=Bool) (fun i=>rcB (m.To.getD i noP)) m.To.length false (fuel:=BIG) (by simp only [BIG]; omega)
  (fun i hi hp=>by
   replace hp:rcB (m.To.getD i noP)=true:=hp
   have:=hstep i hi
   rw [hp] at this
   exact cnd_t (decide_eq_true (by omega)) (bnd (ixO_of hi) (bnd (getOD noP hi) (bndL this (cnd_f rfl (bnd (congrArg some (wrap_succ (n:=i) (by omega))) rfl))))))
  (fun i hi hp=>by
   replace hp:rcB (m.To.getD i noP)=false:=hp
   have:=hstep i hi
   rw [hp] at this
   exact cnd_t (decide_eq_true (by omega)) (bnd (ixO_of hi) (bnd (getOD noP hi) (bndL this (cnd_t rfl rfl)))))
  (cnd_f (decide_eq_false (by omega)) rfl)
 refine bndL (s:=false) (bnd (check_eq _ hs1) (cnd_f (by rw [hF]; rfl) (cnd_f (decide_eq_false (by omega)) (inl_of (decide_eq_false (by omega)))))) (cnd_f rfl ?_)
 by_cases ha:m.To.all rcB=true
 ·rw [if_pos ((all_getD noP rcB m.To).2 ha)] at hloop
  rw [ha]
  exact bndL hloop rfl
 ·rw [if_neg fun h=>ha ((all_getD noP rcB m.To).1 h)] at hloop
  rw [Bool.eq_false_iff.2 ha]
  exact bndR hloop rfl
def bodB (b:List Int):Bool:=decide (dots_Check b=some 0)
def maiB (m:T_Mail):Bool:=envB m&&(decide (m.Body.length≤4096)&&bodB m.Body)
theorem vm_exact {m:T_Mail} (h:LM m) (hb:byt m.Body):bundle_validMail m=some (maiB m):=by
 have hl:=(lm_small h).2.2.1
 unfold bundle_validMail maiB
 have he:=env_exact h
 generalize envB m=x at he ⊢
 cases x
 ·exact bndL (s:=false) (bnd he (cnd_f rfl rfl)) rfl
 by_cases h4:m.Body.length≤4096
 ·rw [decide_eq_true h4]
  unfold bodB
  rcases check_any hb (by omega) with hd | ⟨ls,a,c,d⟩
  ·exact bndL (s:=false) (bnd he (cnd_t rfl (cnd_t (decide_eq_true (by omega)) (bnd hd rfl)))) (by rw [hd]; rfl)
  ·have hd:dots_Check m.Body=some 0:=by rw [d]; exact check_ok a c (by rw [← jn_len,← d]; omega)
   exact bndL (s:=true) (bnd he (cnd_t rfl (cnd_t (decide_eq_true (by omega)) (bnd hd rfl)))) (by rw [hd]; rfl)
 ·rw [decide_eq_false h4]
  exact bndL (s:=false) (bnd he (cnd_t rfl (cnd_f (decide_eq_false (by omega)) rfl))) rfl
def plnB (m:T_Mail):Bool:=maiB m&&(!m.Quiet&&(decide (m.Helo=e0)&&decide (m.At=0)))
def bunB (b:T_Bundle):Bool:=decide ((b.Origin=0∨b.Origin=1)∧1≤b.Number∧b.Number≤65535)&&(decide (1≤b.Mails.length∧b.Mails.length≤4)&&b.Mails.all plnB)
def zM17:T_Mail:=T_Mail.mk noP [] [] false e0 0
theorem chk_exact {b:T_Bundle} (hm:∀ m∈b.Mails,LM m∧byt m.Body) (hl:b.Mails.length≤20):bundle_Check b=some (cond (bunB b) 0 5):=by
 unfold bundle_Check bunB
 have first:∀ {A:Type},(cond (b.Origin != 0) (cond (b.Origin != 1) (some (.inl true)) (cond (decide (b.Number<1)) (some (.inl true)) (some (.inl (decide (65535<b.Number)))))) (cond (decide (b.Number<1)) (some (.inl true)) (some (.inl (decide (65535<b.Number))))):Option (Bool⊕A))=some (.inl (!decide ((b.Origin=0∨b.Origin=1)∧1≤b.Number∧b.Number≤65535))):=by
  intro A
  have tail:(cond (decide (b.Number<1)) (some (.inl true)) (some (.inl (decide (65535<b.Number)))):Option (Bool⊕A))=some (.inl (!decide (1≤b.Number∧b.Number≤65535))):=by
   by_cases h:b.Number<1
   ·rw [decide_eq_false (p:=1≤b.Number∧b.Number≤65535) (by omega)]; exact cnd_t (decide_eq_true h) rfl
   ·refine cnd_f (decide_eq_false h) (inl_of ?_)
    by_cases h2:b.Number≤65535
    ·rw [decide_eq_true (p:=1≤b.Number∧b.Number≤65535) (by omega),decide_eq_false (by omega)]; rfl
    ·rw [decide_eq_false (p:=1≤b.Number∧b.Number≤65535) (by omega),decide_eq_true (by omega)]; rfl
  by_cases o:b.Origin=0∨b.Origin=1
  ·have e:decide ((b.Origin=0∨b.Origin=1)∧1≤b.Number∧b.Number≤65535)=decide (1≤b.Number∧b.Number≤65535):=decide_eq_decide.2 ⟨fun h=>h.2,fun h=>⟨o,h⟩⟩
   rw [e]
   rcases o with o | o
   ·exact cnd_f (by rw [o]; rfl) tail
   ·exact cnd_t (by rw [o]; rfl) (cnd_f (by rw [o]; rfl) tail)
  ·have o0:b.Origin≠0:=fun h=>o (.inl h)
   have o1:b.Origin≠1:=fun h=>o (.inr h)
   rw [decide_eq_false (p:=(b.Origin=0∨b.Origin=1)∧1≤b.Number∧b.Number≤65535) fun h=>o h.1]
   exact cnd_t (by simpa using o0) (cnd_t (by simpa using o1) rfl)
 by_cases nn:(b.Origin=0∨b.Origin=1)∧1≤b.Number∧b.Number≤65535
 case neg =>
  have f1:=first (A:=Int)
  rw [decide_eq_false nn] at f1 ⊢
  exact bndL f1 (cnd_t rfl rfl)
 have f1:=first (A:=Int)
 rw [decide_eq_true nn] at f1 ⊢
 refine bndL f1 (cnd_f rfl ?_)
 by_cases ml:1≤b.Mails.length∧b.Mails.length≤4
 case neg =>
  rw [decide_eq_false ml]
  refine bndL (s:=true) ?_ (cnd_t rfl rfl)
  by_cases h:b.Mails.length<1
  ·exact cnd_t (decide_eq_true (by omega)) rfl
  ·exact cnd_f (decide_eq_false (by omega)) (inl_of (decide_eq_true (by omega)))
 rw [decide_eq_true ml]
 refine bndL (s:=false) (cnd_f (decide_eq_false (by omega)) (inl_of (decide_eq_false (by omega)))) (cnd_f rfl ?_)
 have hstep:∀ i:Nat,i<b.Mails.length→((bundle_validMail (b.Mails.getD i zM17)).bind fun v14=>cond ((!v14)) (some (.inl true)) (cond ((b.Mails.getD i zM17).Quiet) (some (.inl true)) (cond ((!((b.Mails.getD i zM17).Helo.toList==(⟨#[]⟩:ByteArray).toList))) (some (.inl true)) (some (.inl ((b.Mails.getD i zM17).At != 0))))):Option (Bool⊕(Int⊕(Unit⊕Int))))=some (.inl (!plnB (b.Mails.getD i zM17))):=by
  intro i hi
  obtain ⟨h3,h4⟩:=hm _ (memD zM17 hi)
  refine bnd (vm_exact h3 h4) ?_
  unfold plnB
  cases maiB (b.Mails.getD i zM17)
  ·rfl
  cases (b.Mails.getD i zM17).Quiet
  case true=>rfl
  refine cnd_f rfl (cnd_f rfl ?_)
  rw [toList_beq]
  by_cases hh:(b.Mails.getD i zM17).Helo=e0
  ·have hh2:(b.Mails.getD i zM17).Helo=({ data := #[] }:ByteArray):=hh
   rw [decide_eq_true hh,decide_eq_true hh2]
   refine cnd_f rfl (inl_of ?_)
   by_cases ha:(b.Mails.getD i zM17).At=0
   ·rw [decide_eq_true ha,ha]; rfl
   ·rw [decide_eq_false ha,bne_iff_ne.2 ha]; rfl
  ·have hh2:¬ (b.Mails.getD i zM17).Helo=({ data := #[] }:ByteArray):=hh
   rw [decide_eq_false hh,decide_eq_false hh2]
   exact cnd_t rfl rfl
 have hloop:=loop_all (f:=bcS b) (R:=Int) (fun i=>plnB (b.Mails.getD i zM17)) b.Mails.length 5 (fuel:=BIG) (by simp only [BIG]; omega)
  (fun i hi hp=>by
   replace hp:plnB (b.Mails.getD i zM17)=true:=hp
   have:=hstep i hi
   rw [hp] at this
   exact cnd_t (decide_eq_true (by omega)) (bnd (ixO_of hi) (bnd (getOD zM17 hi) (bndL this (cnd_f rfl (bnd (congrArg some (wrap_succ (n:=i) (by omega))) rfl))))))
  (fun i hi hp=>by
   replace hp:plnB (b.Mails.getD i zM17)=false:=hp
   have:=hstep i hi
   rw [hp] at this
   exact cnd_t (decide_eq_true (by omega)) (bnd (ixO_of hi) (bnd (getOD zM17 hi) (bndL this (cnd_t rfl rfl)))))
  (cnd_f (decide_eq_false (by omega)) rfl)
 by_cases ha:b.Mails.all plnB=true
 ·rw [if_pos ((all_getD zM17 plnB b.Mails).2 ha)] at hloop
  rw [ha]
  exact bndL hloop rfl
 ·rw [if_neg fun h=>ha ((all_getD zM17 plnB b.Mails).1 h)] at hloop
  rw [Bool.eq_false_iff.2 ha]
  exact bndR hloop rfl
set_option maxRecDepth 100000
/-! What is kept apart,told as an equation. -/
set_option maxRecDepth 100000
set_option maxRecDepth 10000
theorem in_eq (n lo hi:Int):wherryref11_in n lo hi=some (decide (lo≤n)&&decide (n≤hi)):=by
 unfold wherryref11_in
 cases decide (lo≤n) <;> rfl
def letB (c:Int):Bool:=decide (97≤c)&&decide (c≤122)||decide (65≤c)&&decide (c≤90)
def digB (c:Int):Bool:=decide (48≤c)&&decide (c≤57)
theorem rletter (c:Int):wherryref11_letter c=some (letB c):=by
 unfold wherryref11_letter letB
 cases decide (97≤c) <;> cases decide (c≤122) <;> cases decide (65≤c) <;> cases decide (c≤90) <;> rfl
theorem rdigit (c:Int):wherryref11_digit c=some (digB c):=by
 unfold wherryref11_digit digB
 cases decide (48≤c) <;> rfl
theorem lb_or (c:Int):lbB c=(letB c||(digB c||c==45)):=by
 unfold lbB alB letB digB
 cases decide (97≤c) <;> cases decide (c≤122) <;> cases decide (65≤c) <;> cases decide (c≤90) <;> cases decide (48≤c) <;> cases decide (c≤57) <;> simp
def chkR (q:Int→Int→Bool):Int→List Int→Bool
 | _,[]=>true
 | p,x::r=>q p x&&chkR q x r
theorem chkR_iff (q:Int→Int→Bool):∀ (l:List Int) (p:Int),(∀ i,i<l.length→q ((p::l).getD i 0) (l.getD i 0)=true)↔chkR q p l=true
 | [],p=>by simp [chkR]
 | x::r,p=>by
  unfold chkR
  rw [Bool.and_eq_true,← chkR_iff q r x]
  constructor
  ·intro h
   exact ⟨by simpa using h 0 (by simp),fun i hi=>by simpa using h (i+1) (by simpa using hi)⟩
  ·rintro ⟨h0,h1⟩ i hi
   cases i with
   | zero=>simpa using h0
   | succ i=>simpa using h1 i (by simpa using hi)
def labE (l:List Int):Bool:=decide (1≤l.length)&&(decide (l.length≤63)&&(l.getD 0 0 != 45&&l.getD (l.length-1) 0 != 45))
theorem labB_E (l:List Int):labB l=(labE l&&l.all lbB):=by
 unfold labB labE
 cases l with
 | nil=>rfl
 | cons x r =>
  rw [last_getD (by simp),head_getD (by simp)]
  have:decide (1≤(x::r).length)=true:=by simp
  rw [this]
  simp only [List.isEmpty_cons,Bool.not_false,Bool.true_and]
  have e1:(some ((x::r).getD 0 0) != some 45)=((x::r).getD 0 0 != 45):=by rw [Bool.eq_iff_iff]; simp
  have e2:(some ((x::r).getD ((x::r).length-1) 0) != some 45)=((x::r).getD ((x::r).length-1) 0 != 45):=by rw [Bool.eq_iff_iff]; simp
  rw [e1,e2]
  simp only [Bool.and_assoc]
def domG:List Int→List Int→Bool
 | cur,[]=>labE cur
 | cur,x::r=>if x=46 then labE cur&&domG [] r else lbB x&&domG (cur++[x]) r
theorem domG_spl:∀ (l cur:List Int),cur.all lbB=true→domG cur l=match spl 46 l with
  | []=>true
  | a::ps=>labB (cur++a)&&ps.all labB
 | [],cur,h=>by simp [domG,spl,labB_E,h]
 | x::r,cur,h=>by
  have hne:=spl_ne 46 r
  unfold domG spl
  by_cases hx:x=46
  ·rw [if_pos hx,if_pos hx,domG_spl r [] rfl]
   cases hs:spl 46 r with
   | nil=>exact absurd hs hne
   | cons a ps=>simp [labB_E,h]
  ·rw [if_neg hx,if_neg hx]
   cases hs:spl 46 r with
   | nil=>exact absurd hs hne
   | cons a ps =>
    cases hl:lbB x
    ·simp [labB_E,hl]
    ·have:=domG_spl r (cur++[x]) (by simp [h,hl])
     rw [this,hs]
     simp
theorem dom_G (l:List Int):(spl 46 l).all labB=domG [] l:=by
 rw [domG_spl l [] rfl]
 cases hs:spl 46 l with
 | nil=>exact absurd hs (spl_ne 46 l)
 | cons a ps=>simp
def rdomS (s:ByteArray):Int×Int→Option ((Int×Int)⊕(Unit⊕Bool)):=(fun ((s88,s89):Int×Int) =>
    cond ((decide (s89≤(s.size:Int))))
     (bindS (S:=Int) (A:=((Int×Int)⊕((Unit)⊕Bool)))
      (bindS (S:=Bool) (A:=(Int⊕((Int×Int)⊕((Unit)⊕Bool))))
       (cond ((decide (s89<(s.size:Int))))
        ((chrO s s89).bind fun v4 =>
        some (.inl (v4 != 46)))
        (some (.inl false)))
       (fun (s151:Bool) =>
        cond (s151)
         (bindS (S:=Bool) (A:=(Int⊕((Int×Int)⊕((Unit)⊕Bool))))
          ((chrO s s89).bind fun v10 =>
          (wherryref11_letter v10).bind fun v11 =>
          cond ((!v11))
           ((chrO s s89).bind fun v12 =>
           (wherryref11_digit v12).bind fun v13 =>
           cond ((!v13))
            ((chrO s s89).bind fun v14 =>
            some (.inl (v14 != 45)))
            (some (.inl false)))
           (some (.inl false)))
          (fun (s156:Bool) =>
           cond (s156)
            (some (.inr (.inr (.inr (false)))))
            (some (.inl s88))) some)
         (bindS (S:=Bool) (A:=(Int⊕((Int×Int)⊕((Unit)⊕Bool))))
          ((some (IntKind.i64.wrap (s89-s88))).bind fun v20 =>
          (wherryref11_in v20 1 63).bind fun v21 =>
          cond ((!v21))
           (some (.inl true))
           ((chrO s s88).bind fun v22 =>
           cond ((v22==45))
            (some (.inl true))
            ((some (IntKind.i64.wrap (s89-1))).bind fun v23 =>
            (chrO s v23).bind fun v24 =>
            some (.inl (v24==45)))))
          (fun (s161:Bool) =>
           cond (s161)
            (some (.inr (.inr (.inr (false)))))
            ((some (IntKind.i64.wrap (s89+1))).bind fun v30 =>
            some (.inl v30))) some)) some)
      (fun (s147:Int) =>
       (some (IntKind.i64.wrap (s89+1))).bind fun v50 =>
       some (.inl (s147,v50))) some)
     (some (.inr (.inl ()))))
theorem rlab {R:Type} (s:ByteArray) (f i:Nat) (cur:List Int) (hi:i≤s.size) (hs:s.size<4611686018427387904) (hl:f+cur.length=i) (hc:∀ j,j<cur.length→(sbytes s).getD (f+j) 0=cur.getD j 0) (A:Option (R⊕((Int×Int)⊕(Unit⊕Bool)))) (B:Option (R⊕((Int×Int)⊕(Unit⊕Bool)))) :
  (bindS (S:=Bool) (A:=(R⊕((Int×Int)⊕((Unit)⊕Bool))))
          ((some (IntKind.i64.wrap ((i:Int)-(f:Int)))).bind fun v20 =>
          (wherryref11_in v20 1 63).bind fun v21 =>
          cond ((!v21))
           (some (.inl true))
           ((chrO s (f:Int)).bind fun v22 =>
           cond ((v22==45))
            (some (.inl true))
            ((some (IntKind.i64.wrap ((i:Int)-1))).bind fun v23 =>
            (chrO s v23).bind fun v24 =>
            some (.inl (v24==45)))))
          (fun (s161:Bool) =>
           cond (s161) A B) some)=cond (labE cur) B A:=by
 have w:some (IntKind.i64.wrap ((i:Int)-(f:Int)))=some (cur.length:Int):=by rw [wrap_i (by omega) (by omega)]; congr 1; omega
 have hin:=in_eq (cur.length:Int) 1 63
 unfold labE
 by_cases h1:1≤cur.length
 ·by_cases h2:cur.length≤63
  ·rw [decide_eq_true (by omega),decide_eq_true (by omega)] at hin
   rw [decide_eq_true h1,decide_eq_true h2]
   have c0:=chrD (s:=s) (i:=f) (by omega)
   have e0:=hc 0 (by omega)
   rw [Nat.add_zero] at e0
   rw [e0] at c0
   have c1:=chrD (s:=s) (i:=i-1) (by omega)
   have e1:=hc (cur.length-1) (by omega)
   rw [show f+(cur.length-1)=i-1 by omega] at e1
   rw [e1,show ((i-1:Nat):Int)=(i:Int)-1 by omega] at c1
   by_cases h3:cur.getD 0 0=45
   ·refine bndL (s:=true) (bnd w (bnd hin (cnd_f rfl (bnd c0 (cnd_t (by rw [h3]; rfl) rfl))))) ?_
    rw [h3]; rfl
   ·have x3:(cur.getD 0 0==45)=false:=by simpa using h3
    have y3:(cur.getD 0 0 != 45)=true:=by simpa using h3
    refine bndL (s:=(cur.getD (cur.length-1) 0==45)) (bnd w (bnd hin (cnd_f rfl (bnd c0 (cnd_f x3 (bnd (wrap_i (by omega) (by omega)) (bnd c1 rfl))))))) ?_
    rw [y3]
    unfold bne
    cases (cur.getD (cur.length-1) 0==45) <;> rfl
  ·rw [decide_eq_true (by omega),decide_eq_false (by omega)] at hin
   rw [decide_eq_true h1,decide_eq_false h2]
   exact bndL (s:=true) (bnd w (bnd hin rfl)) rfl
 ·rw [decide_eq_false (by omega)] at hin
  rw [decide_eq_false h1]
  exact bndL (s:=true) (bnd w (bnd hin rfl)) rfl
theorem rdom_loop (s:ByteArray) (hs:s.size<4611686018427387904):∀ (rest cur:List Int) (f i fuel:Nat),f+cur.length=i→(sbytes s).drop i=rest→i≤s.size→(∀ j,j<cur.length→(sbytes s).getD (f+j) 0=cur.getD j 0)→rest.length+1<fuel →
  loopF (rdomS s) fuel ((f:Int),(i:Int))=some (if domG cur rest=true then .inl () else .inr false)
 | [],cur,f,i,fuel,hl,hd,hi,hc,hf=>by
  have hi2:i=s.size:=by
   have:=congrArg List.length hd
   rw [List.length_drop,sbytes_len] at this
   simp at this; omega
  obtain ⟨k,rfl⟩:∃ k,fuel=k+1+1:=⟨fuel-2,by simp at hf; omega⟩
  have hr:=rlab (R:=Int) s f i cur hi hs hl hc (some (.inr (.inr (.inr false)))) ((some (IntKind.i64.wrap ((i:Int)+1))).bind fun v30=>some (.inl v30))
  have w:some (IntKind.i64.wrap ((i:Int)+1))=some ((i+1:Nat):Int):=by rw [wrap_succ (by omega)]
  have hd0:domG cur []=labE cur:=rfl
  rw [hd0]
  cases hlab:labE cur
  ·rw [hlab,cond_false] at hr
   rw [loop_exit (o := .inr false)]
   ·rfl
   ·unfold rdomS
    exact cnd_t (decide_eq_true (by omega)) (bndR (a := .inr (.inr false)) (bndL (s:=false) (cnd_f (decide_eq_false (by omega)) rfl) (cnd_f rfl hr)) rfl)
  ·rw [hlab,cond_true] at hr
   rw [loop_next (s':=(((i+1:Nat):Int),((i+1:Nat):Int))),loop_exit (o := .inl ())]
   ·rfl
   ·unfold rdomS
    exact cnd_f (decide_eq_false (by omega)) rfl
   ·unfold rdomS
    exact cnd_t (decide_eq_true (by omega)) (bndL (s:=((i+1:Nat):Int)) (bndL (s:=false) (cnd_f (decide_eq_false (by omega)) rfl) (cnd_f rfl (hr.trans (bnd w rfl)))) (bnd w rfl))
 | x::rest,cur,f,i,fuel,hl,hd,hi,hc,hf=>by
  have hlt:i<s.size:=by
   have:=congrArg List.length hd
   rw [List.length_drop,sbytes_len] at this
   simp at this; omega
  have hx:(sbytes s).getD i 0=x:=by
   have:=congrArg List.head? hd
   rw [List.head?_drop] at this
   rw [List.getD_eq_getElem?_getD,this]; rfl
  have hd2:(sbytes s).drop (i+1)=rest:=by
   rw [← List.drop_drop,hd]; rfl
  obtain ⟨k,rfl⟩:∃ k,fuel=k+1:=⟨fuel-1,by omega⟩
  have hchr:=chrD hlt
  rw [hx] at hchr
  have w:some (IntKind.i64.wrap ((i:Int)+1))=some ((i+1:Nat):Int):=by rw [wrap_succ (by omega)]
  have lt:decide ((i:Int)≤(s.size:Int))=true:=decide_eq_true (by omega)
  have lt2:decide ((i:Int)<(s.size:Int))=true:=decide_eq_true (by omega)
  unfold domG
  by_cases h46:x=46
  ·rw [if_pos h46]
   have hr:=rlab (R:=Int) s f i cur hi hs hl hc (some (.inr (.inr (.inr false)))) ((some (IntKind.i64.wrap ((i:Int)+1))).bind fun v30=>some (.inl v30))
   cases hlab:labE cur
   ·rw [hlab,cond_false] at hr
    rw [loop_exit (o := .inr false)]
    ·rfl
    ·unfold rdomS
     exact cnd_t lt (bndR (a := .inr (.inr false)) (bndL (s:=false) (cnd_t lt2 (bnd hchr (by rw [h46]; rfl))) (cnd_f rfl hr)) rfl)
   ·rw [hlab,cond_true] at hr
    rw [loop_next (s':=(((i+1:Nat):Int),((i+1:Nat):Int)))]
    ·rw [Bool.true_and]
     exact rdom_loop s hs rest [] (i+1) (i+1) k (by simp) hd2 (by omega) (by simp) (by simp at hf; omega)
    ·unfold rdomS
     exact cnd_t lt (bndL (s:=((i+1:Nat):Int)) (bndL (s:=false) (cnd_t lt2 (bnd hchr (by rw [h46]; rfl))) (cnd_f rfl (hr.trans (bnd w rfl)))) (bnd w rfl))
  ·rw [if_neg h46]
   have hx46:(x != 46)=true:=by simpa using h46
   have hlb:=lb_or x
   have hin:((chrO s (i:Int)).bind fun v10 =>
          (wherryref11_letter v10).bind fun v11 =>
          cond ((!v11))
           ((chrO s (i:Int)).bind fun v12 =>
           (wherryref11_digit v12).bind fun v13 =>
           cond ((!v13))
            ((chrO s (i:Int)).bind fun v14 =>
            some (Sum.inl (β:=(Int⊕((Int×Int)⊕((Unit)⊕Bool)))) (v14 != 45)))
            (some (.inl false)))
           (some (.inl false)))=some (.inl (!lbB x)):=by
    rw [hlb]
    refine bnd hchr (bnd (rletter x) ?_)
    cases letB x
    ·refine cnd_t rfl (bnd hchr (bnd (rdigit x) ?_))
     cases digB x
     ·exact cnd_t rfl (bnd hchr rfl)
     ·rfl
    ·rfl
   cases hl1:lbB x
   ·rw [hl1] at hin
    rw [loop_exit (o := .inr false)]
    ·rfl
    ·unfold rdomS
     exact cnd_t lt (bndR (a := .inr (.inr false)) (bndL (s:=true) (cnd_t lt2 (bnd hchr (by rw [hx46]))) (cnd_t rfl (bndL (s:=true) hin rfl))) rfl)
   ·rw [hl1] at hin
    rw [loop_next (s':=((f:Int),((i+1:Nat):Int)))]
    ·rw [Bool.true_and]
     refine rdom_loop s hs rest (cur++[x]) f (i+1) k (by simp; omega) hd2 (by omega) (fun j hj => ?_) (by simp at hf; omega)
     simp at hj
     by_cases hj2:j<cur.length
     ·rw [hc j hj2,List.getD_eq_getElem?_getD,List.getD_eq_getElem?_getD,List.getElem?_append_left hj2]
     ·have hj3:j=cur.length:=by omega
      subst hj3
      rw [hl,hx]
      simp
    ·unfold rdomS
     exact cnd_t lt (bndL (s:=(f:Int)) (bndL (s:=true) (cnd_t lt2 (bnd hchr (by rw [hx46]))) (cnd_t rfl (bndL (s:=false) hin rfl))) (bnd w rfl))
theorem rdom_eq (s:ByteArray):wherryref11_Domain s=some (domB (sbytes s)):=by
 unfold wherryref11_Domain domB
 rw [sbytes_len]
 have hin:=in_eq (s.size:Int) 1 255
 by_cases h:1≤s.size∧s.size≤255
 ·rw [decide_eq_true (by omega),decide_eq_true (by omega)] at hin
  refine bnd hin (cnd_f rfl ?_)
  rw [decide_eq_true h.2,Bool.true_and,dom_G]
  have:=rdom_loop s (by omega) (sbytes s) [] 0 0 BIG rfl rfl (by omega) (by simp) (by rw [sbytes_len]; unfold BIG; omega)
  change bindS (loopF (rdomS s) BIG ((0:Nat),(0:Nat))) _ _=_
  rw [this]
  cases domG [] (sbytes s) <;> rfl
 ·have hn:(decide ((1:Int)≤(s.size:Int))&&decide ((s.size:Int)≤255))=false:=by
   by_cases h1:1≤s.size
   ·rw [decide_eq_true (by omega),decide_eq_false (by omega)]; rfl
   ·rw [decide_eq_false (by omega)]; rfl
  rw [hn] at hin
  refine bnd hin (cnd_t rfl ?_)
  by_cases h1:1≤s.size
  ·rw [decide_eq_false (by omega)]; rfl
  ·have:sbytes s=[]:=List.eq_nil_of_length_eq_zero (by rw [sbytes_len]; omega)
   rw [this]
   simp [spl,labB]
theorem rsign_all:(List.range 256).all (fun k=>decide (wherryref11_sign ((k:Nat):Int)=some (atB ((k:Nat):Int))))=true:=by kernel_rfl
theorem rsign {c:Int} (hc:0≤c∧c<256):wherryref11_sign c=some (atB c):=by
 simpa using of_byte (fun c=>decide (wherryref11_sign c=some (atB c))) rsign_all hc
def qLoc (p x:Int):Bool:=if x=46 then decide (p≠46) else atB x
def locG (p:Int) (l:List Int):Bool:=chkR qLoc p l&&decide ((p::l).getLast? ≠ some 46)
theorem locG_spl:∀ (l:List Int) (p:Int),locG p l=match spl 46 l with
  | []=>true
  | a::ps=>(if p=46 then atmB a else a.all atB)&&ps.all atmB
 | [],p=>by
  unfold locG
  simp only [chkR,spl,Bool.true_and,List.getLast?_singleton,List.all_nil,Bool.and_true]
  by_cases h:p=46
  ·simp [h,atmB]
  ·simp [h]
 | x::r,p=>by
  have ih:=locG_spl r x
  have hne:=spl_ne 46 r
  unfold spl
  have e:locG p (x::r)=(qLoc p x&&locG x r):=by
   unfold locG
   simp only [chkR,List.getLast?_cons_cons,Bool.and_assoc]
  rw [e,ih]
  cases hs:spl 46 r with
  | nil=>exact absurd hs hne
  | cons a ps =>
   by_cases hx:x=46
   ·subst hx
    simp only [qLoc,if_true,List.all_cons]
    by_cases hp:p=46
    ·subst hp; simp [atmB]
    ·simp [hp]
   ·simp only [qLoc,if_neg hx,List.all_cons]
    by_cases hp:p=46
    ·subst hp; simp [atmB,Bool.and_assoc]
    ·simp [hp,Bool.and_assoc]
theorem loc_chk (l:List Int) (hne:l≠[]) (h46:l.head? ≠ some 46) (hl:l.getLast? ≠ some 46):(spl 46 l).all atmB=chkR qLoc 0 l:=by
 have h:=locG_spl l 46
 have e1:locG 46 l=chkR qLoc 0 l:=by
  cases l with
  | nil=>exact absurd rfl hne
  | cons x r =>
   have hx:x≠46:=by simpa using h46
   unfold locG
   simp only [chkR,List.getLast?_cons_cons,qLoc,if_neg hx]
   rw [decide_eq_true hl,Bool.and_true]
 rw [← e1,h]
 cases hs:spl 46 l with
 | nil=>exact absurd hs (spl_ne 46 l)
 | cons a ps=>simp
theorem loc_first {l:List Int} (h:l.head? = some 46):(spl 46 l).all atmB=false:=by
 cases l with
 | nil=>simp at h
 | cons x r=>simp at h; subst h; simp [spl,atmB]
theorem loc_last {l:List Int} (h:l.getLast? = some 46):(spl 46 l).all atmB=false:=by
 have h2:=locG_spl l 46
 have e:(spl 46 l).all atmB=locG 46 l:=by
  rw [h2]
  cases hs:spl 46 l with
  | nil=>exact absurd hs (spl_ne 46 l)
  | cons a ps=>simp
 rw [e]
 unfold locG
 cases l with
 | nil=>simp at h
 | cons x r=>rw [List.getLast?_cons_cons,h]; simp
theorem rloc_eq (s:ByteArray):wherryref11_Local s=some (locB (sbytes s)):=by
 unfold wherryref11_Local locB
 rw [sbytes_len]
 by_cases h:1≤s.size∧s.size≤64
 ·have hn:(decide ((1:Int)≤(s.size:Int))&&decide ((s.size:Int)≤64))=true:=by rw [decide_eq_true (by omega),decide_eq_true (by omega)]; rfl
  have hin:=in_eq (s.size:Int) 1 64
  rw [hn] at hin
  have hne:sbytes s≠[]:=by intro e; have:=sbytes_len s; rw [e] at this; simp at this; omega
  have hh:=head_getD hne
  have hg:=last_getD hne
  rw [sbytes_len] at hg
  have c0:=chrD (s:=s) (i:=0) (by omega)
  have c1:=chrD (s:=s) (i:=s.size-1) (by omega)
  have e1:((s.size-1:Nat):Int)=(s.size:Int)-1:=by omega
  rw [e1] at c1
  rw [decide_eq_true h.2,Bool.true_and]
  by_cases h0:(sbytes s).getD 0 0=46
  ·rw [h0] at hh c0
   rw [loc_first hh]
   exact bndL (s:=true) (bnd hin (cnd_f rfl (bnd c0 (cnd_t rfl rfl)))) rfl
  ·by_cases hl:(sbytes s).getD (s.size-1) 0=46
   ·rw [hl] at hg c1
    rw [loc_last hg]
    exact bndL (s:=true) (bnd hin (cnd_f rfl (bnd c0 (cnd_f (by simpa using h0) (bnd (wrap_i (by omega) (by omega)) (bnd c1 rfl)))))) rfl
   ·rw [loc_chk _ hne (by rw [hh]; simpa using h0) (by rw [hg]; simpa using hl)]
    refine bndL (s:=false) (bnd hin (cnd_f rfl (bnd c0 (cnd_f (by simpa using h0) (bnd (wrap_i (by omega) (by omega)) (bnd c1 (by rw [show ((sbytes s).getD (s.size-1) 0==46)=false by simpa using hl])))))) ) (cnd_f rfl ?_)
    let q:Nat→Bool:=fun i=>qLoc ((0::sbytes s).getD i 0) ((sbytes s).getD i 0)
    have hl2:=fun (g:Int→Option (Int⊕(Unit⊕Bool)))=>loop_all (R:=Bool) (f:=g) q s.size false (fuel:=BIG) (by unfold BIG; omega)
    have hiff:=chkR_iff qLoc (sbytes s) 0
    rw [sbytes_len] at hiff
    have prev:∀ i,i<s.size→(sbytes s).getD i 0=46→chrO s ((i:Int)-1)=some ((0::sbytes s).getD i 0):=by
     intro i hi h46
     cases i with
     | zero=>exact absurd h46 h0
     | succ i =>
      have:=chrD (s:=s) (i:=i) (by omega)
      have e:((i+1:Nat):Int)-1=(i:Int):=by omega
      rw [e,this]; rfl
    rw [show chkR qLoc 0 (sbytes s)=decide (∀ i,i<s.size→q i=true) by rw [Bool.eq_iff_iff,decide_eq_true_eq]; exact hiff.symm]
    refine (congrArg (fun m=>bindS m _ _) (hl2 _ ?_ ?_ ?_)).trans ?_
    ·intro i hi hq
     have w:some (IntKind.i64.wrap ((i:Int)-1))=some ((i:Int)-1):=wrap_i (by omega) (by omega)
     have w2:some (IntKind.i64.wrap ((i:Int)+1))=some ((i+1:Nat):Int):=by rw [wrap_succ (by omega)]
     refine cnd_t (decide_eq_true (by omega)) (bndL (s:=false) (bnd (chrD hi) ?_) (cnd_f rfl (bnd w2 rfl)))
     by_cases h46:(sbytes s).getD i 0=46
     ·refine cnd_t (by rw [h46]; rfl) (bnd w (bnd (prev i hi h46) ?_))
      have hp:(0::sbytes s).getD i 0≠46:=by
       simp only [q,qLoc,if_pos h46,decide_eq_true_eq] at hq
       exact hq
      exact cnd_f (by simpa using hp) (bnd (chrD hi) (cnd_f (by rw [h46]; rfl) rfl))
     ·refine cnd_f (by simpa using h46) (bnd (chrD hi) (cnd_t (by simpa using h46) (bnd (chrD hi) (bnd (rsign (getD_byte s hi)) ?_))))
      simp only [q,qLoc,if_neg h46] at hq
      rw [hq]; rfl
    ·intro i hi hq
     have w:some (IntKind.i64.wrap ((i:Int)-1))=some ((i:Int)-1):=wrap_i (by omega) (by omega)
     refine cnd_t (decide_eq_true (by omega)) (bndL (s:=true) (bnd (chrD hi) ?_) (cnd_t rfl rfl))
     by_cases h46:(sbytes s).getD i 0=46
     ·refine cnd_t (by rw [h46]; rfl) (bnd w (bnd (prev i hi h46) ?_))
      have hp:(0::sbytes s).getD i 0=46:=by
       simp only [q,qLoc,if_pos h46,decide_eq_false_iff_not,ne_eq] at hq
       exact Decidable.not_not.1 hq
      exact cnd_t (by rw [hp]; rfl) rfl
     ·refine cnd_f (by simpa using h46) (bnd (chrD hi) (cnd_t (by simpa using h46) (bnd (chrD hi) (bnd (rsign (getD_byte s hi)) ?_))))
      simp only [q,qLoc,if_neg h46] at hq
      rw [hq]; rfl
    ·exact cnd_f (decide_eq_false (by omega)) rfl
    ·by_cases hall:∀ i,i<s.size→q i=true
     ·rw [if_pos hall,decide_eq_true hall]; rfl
     ·rw [if_neg hall,decide_eq_false hall]; rfl
 ·have hn:(decide ((1:Int)≤(s.size:Int))&&decide ((s.size:Int)≤64))=false:=by
   by_cases h1:1≤s.size
   ·rw [decide_eq_true (by omega),decide_eq_false (by omega)]; rfl
   ·rw [decide_eq_false (by omega)]; rfl
  have hin:=in_eq (s.size:Int) 1 64
  rw [hn] at hin
  refine bndL (s:=true) (bnd hin rfl) (cnd_t rfl ?_)
  by_cases h1:1≤s.size
  ·rw [decide_eq_false (by omega)]; rfl
  ·have:sbytes s=[]:=List.eq_nil_of_length_eq_zero (by rw [sbytes_len]; omega)
   rw [this]
   simp [spl,atmB]
theorem rpath_eq (p:T_Path):wherryref11_Path p=some (patB p):=by
 unfold wherryref11_Path patB
 rw [isE,isE]
 cases hn:p.Null
 ·refine cnd_f rfl (bndL (s:=locB (sbytes p.Local)&&domB (sbytes p.Domain)) (bnd (rloc_eq p.Local) ?_) rfl)
  cases locB (sbytes p.Local)
  ·rfl
  ·exact cnd_t rfl (bnd (rdom_eq p.Domain) rfl)
 ·refine cnd_t rfl (bndL (s:=(sbytes p.Local).isEmpty&&(sbytes p.Domain).isEmpty) ?_ rfl)
  cases (sbytes p.Local).isEmpty <;> rfl
theorem rtext_eq (p:T_Path) (h:Small p):wherryref11_Text p=some (bstr (txtL p)):=by
 unfold wherryref11_Text txtL
 cases hn:p.Null
 ·exact cnd_f rfl (cats p h _ _ rfl)
 ·exact cnd_t rfl rfl
def okb:Int→List Int→Prop
 | _,[]=>True
 | p,x::l=>(x=13→l.head? = some 10)∧(x=10→p=13)∧okb x l
theorem okb_line:∀ (b:List Int) (p:Int),okb p b→p≠13→b.getLast? = some 10→∃ l r,b=l++13::10::r∧cln l∧okb 10 r∧(r=[]∨r.getLast? = some 10)
 | [],p,_,_,h=>by simp at h
 | x::t,p,h,hp,hl=>by
  obtain ⟨h1,h2,h3⟩:=h
  by_cases hx:x=13
  ·subst hx
   cases t with
   | nil=>simp at hl
   | cons y r =>
    have hy:=h1 rfl
    simp at hy
    subst hy
    refine ⟨[],r,rfl,fun z hz=>by simp at hz,h3.2.2,?_⟩
    cases r with
    | nil=>exact .inl rfl
    | cons z r=>right; rw [List.getLast?_cons_cons,List.getLast?_cons_cons] at hl; exact hl
  ·have hx2:x≠10:=fun e=>hp (h2 e)
   cases t with
   | nil=>simp at hl; exact absurd hl hx2
   | cons y t =>
    rw [List.getLast?_cons_cons] at hl
    obtain ⟨l,r,e,hc,ho,hr⟩:=okb_line (y::t) x h3 hx hl
    refine ⟨x::l,r,by rw [e]; rfl,fun z hz => ?_,ho,hr⟩
    rcases List.mem_cons.1 hz with rfl | hz
    ·exact ⟨hx,hx2⟩
    ·exact hc z hz
theorem okb_lines:∀ (n:Nat) (b:List Int) (p:Int),b.length≤n→okb p b→p≠13→(b=[]∨b.getLast? = some 10)→∃ ls,(∀ l∈ls,cln l)∧b=jn ls
 | 0,b,p,hn,_,_,_=>⟨[],fun l hl=>by simp at hl,by cases b with | nil=>rfl | cons=>simp at hn⟩
 | n+1,b,p,hn,ho,hp,hl=>by
  rcases hl with rfl | hl
  ·exact ⟨[],fun l hl=>by simp at hl,rfl⟩
  ·obtain ⟨l,r,e,hc,ho2,hr⟩:=okb_line b p ho hp hl
   obtain ⟨ls,h1,h2⟩:=okb_lines n r 10 (by rw [e] at hn; simp at hn; omega) ho2 (by decide) hr
   refine ⟨l::ls,fun m hm => ?_,by rw [e,h2]; rfl⟩
   rcases List.mem_cons.1 hm with rfl | hm
   ·exact hc
   ·exact h1 m hm
def bad (b:List Int) (i:Nat):Bool:=if b[i]? = some 13 then decide (b[i+1]? ≠ some 10) else if b[i]? = some 10 then decide (i=0∨b[i-1]? ≠ some 13) else false
theorem okb_of:∀ (b:List Int) (p:Int),(∀ i,i<b.length→(b[i]? = some 13→b[i+1]? = some 10)∧(b[i]? = some 10→(if i=0 then some p else b[i-1]?)=some 13))→okb p b
 | [],_,_=>trivial
 | x::l,p,h=>by
  refine ⟨fun e => ?_,fun e => ?_,okb_of l x fun i hi => ?_⟩
  ·have:=(h 0 (by simp)).1 (by simp [e])
   cases l with
   | nil=>simp at this
   | cons y l=>simpa using this
  ·have:=(h 0 (by simp)).2 (by simp [e])
   simpa using this
  ·have:=h (i+1) (by simp; omega)
   refine ⟨fun e=>by simpa using this.1 (by simpa using e),fun e => ?_⟩
   have h2:=this.2 (by simpa using e)
   rw [if_neg (by omega)] at h2
   cases i with
   | zero=>simpa using h2
   | succ i=>simpa using h2
theorem bad_no {b:List Int} (h:∀ i,i<b.length→(!bad b i)=true):okb 0 b:=by
 refine okb_of b 0 fun i hi => ?_
 have h1:=h i hi
 simp only [bad,Bool.not_eq_true'] at h1
 refine ⟨fun e => ?_,fun e => ?_⟩
 ·rw [if_pos e,decide_eq_false_iff_not,Classical.not_not] at h1; exact h1
 ·rw [e] at h1
  rw [if_neg (by simp),if_pos rfl,decide_eq_false_iff_not,not_or,Classical.not_not] at h1
  rw [if_neg h1.1]; exact h1.2
theorem get_of {b:List Int} {i:Nat} (h:i<b.length):b[i]? = some b[i]:=List.getElem?_eq_getElem h
theorem body_step (b:List Int) {i:Nat} (hi:i<b.length) (hl:b.length<4611686018427387904) :
  ((ixO (i:Int) b.length).bind fun v2 =>
     (getO b v2).bind fun v3 =>
     cond ((v3==13))
      ((some (IntKind.i64.wrap ((i:Int)+1))).bind fun v4 =>
      cond ((decide ((b.length:Int)≤v4)))
       (some (.inl true))
       ((some (IntKind.i64.wrap ((i:Int)+1))).bind fun v5 =>
       (ixO v5 b.length).bind fun v6 =>
       (getO b v6).bind fun v7 =>
       cond ((v7 != 10))
        (some (.inl true))
        ((ixO (i:Int) b.length).bind fun v8 =>
        (getO b v8).bind fun v9 =>
        cond ((v9==10))
         (cond (((i:Int)==0))
          (some (.inl true))
          ((some (IntKind.i64.wrap ((i:Int)-1))).bind fun v10 =>
          (ixO v10 b.length).bind fun v11 =>
          (getO b v11).bind fun v12 =>
          some (.inl (v12 != 13))))
         (some (.inl false)))))
      ((ixO (i:Int) b.length).bind fun v13 =>
      (getO b v13).bind fun v14 =>
      cond ((v14==10))
       (cond (((i:Int)==0))
        (some (.inl true))
        ((some (IntKind.i64.wrap ((i:Int)-1))).bind fun v15 =>
        (ixO v15 b.length).bind fun v16 =>
        (getO b v16).bind fun v17 =>
        some (.inl (v17 != 13))))
       (some (.inl false))):Option (Bool⊕((Int)⊕((Unit)⊕Bool))))=some (.inl (bad b i)):=by
 have e0:some (IntKind.i64.wrap ((i:Int)+1))=some ((i+1:Nat):Int):=by rw [wrap_j (by omega) (by omega)]; simp
 refine bnd (ixO_of hi) (bnd (getO_of hi) ?_)
 by_cases h13:b[i]=13
 ·refine cnd_t (by rw [h13]; rfl) (bnd e0 ?_)
  unfold bad
  rw [get_of hi,if_pos (by rw [h13])]
  by_cases hn:i+1<b.length
  ·refine cnd_f (decide_eq_false (by omega)) (bnd e0 (bnd (ixO_of hn) (bnd (getO_of hn) ?_)))
   rw [get_of hn]
   by_cases h10:b[i+1]=10
   ·refine cnd_f (by rw [h10]; rfl) (bnd (ixO_of hi) (bnd (getO_of hi) (cnd_f (by rw [h13]; rfl) ?_)))
    simp [h10]
   ·refine cnd_t (by simpa using h10) ?_
    simp [h10]
  ·refine cnd_t (decide_eq_true (by omega)) ?_
   rw [List.getElem?_eq_none (by omega)]; rfl
 ·refine cnd_f (by simpa using h13) (bnd (ixO_of hi) (bnd (getO_of hi) ?_))
  unfold bad
  rw [get_of hi,if_neg (by simpa using h13)]
  by_cases h10:b[i]=10
  ·refine cnd_t (by rw [h10]; rfl) ?_
   rw [if_pos (by rw [h10])]
   cases i with
   | zero=>rfl
   | succ i =>
    refine cnd_f (by rw [beq_eq_false_iff_ne]; omega) (bnd (x:=((i:Nat):Int)) (by rw [wrap_j (by omega) (by omega)]; simp) (bnd (ixO_of (by omega)) (bnd (getO_of (by omega)) ?_)))
    rw [show i+1-1=i by omega,get_of (by omega)]
    congr 2
    rw [Bool.eq_iff_iff,bne_iff_ne,decide_eq_true_eq]
    simp
  ·refine cnd_f (by simpa using h10) ?_
   rw [if_neg (by simpa using h10)]
theorem body_any (b:List Int) (hb:byt b) (hl:b.length<4294967281):wherryref11_Body b=some false∨(wherryref11_Body b=some true∧∃ ls,(∀ l∈ls,cln l)∧(∀ l∈ls,byt l)∧b=jn ls):=by
 have hloop:=loop_all (R:=Bool) (f:=fun (s31:Int)=>cond ((decide (s31<(b.length:Int))))
    (bindS (S:=Bool) (A:=((Int)⊕((Unit)⊕Bool)))
     ((ixO s31 b.length).bind fun v2 =>
     (getO b v2).bind fun v3 =>
     cond ((v3==13))
      ((some (IntKind.i64.wrap (s31+1))).bind fun v4 =>
      cond ((decide ((b.length:Int)≤v4)))
       (some (.inl true))
       ((some (IntKind.i64.wrap (s31+1))).bind fun v5 =>
       (ixO v5 b.length).bind fun v6 =>
       (getO b v6).bind fun v7 =>
       cond ((v7 != 10))
        (some (.inl true))
        ((ixO s31 b.length).bind fun v8 =>
        (getO b v8).bind fun v9 =>
        cond ((v9==10))
         (cond ((s31==0))
          (some (.inl true))
          ((some (IntKind.i64.wrap (s31-1))).bind fun v10 =>
          (ixO v10 b.length).bind fun v11 =>
          (getO b v11).bind fun v12 =>
          some (.inl (v12 != 13))))
         (some (.inl false)))))
      ((ixO s31 b.length).bind fun v13 =>
      (getO b v13).bind fun v14 =>
      cond ((v14==10))
       (cond ((s31==0))
        (some (.inl true))
        ((some (IntKind.i64.wrap (s31-1))).bind fun v15 =>
        (ixO v15 b.length).bind fun v16 =>
        (getO b v16).bind fun v17 =>
        some (.inl (v17 != 13))))
       (some (.inl false))))
     (fun (s45:Bool) =>
      cond (s45)
       (some (.inr (.inr (false))))
       ((some (IntKind.i64.wrap (s31+1))).bind fun v23 =>
       some (.inl v23))) some)
    (some (.inr (.inl ())))) (fun i => !bad b i) b.length false (fuel:=BIG) (by unfold BIG; omega)
  (fun i hi hp=>cnd_t (decide_eq_true (by omega)) (bndL (s:=bad b i) (body_step b hi (by omega)) (cnd_f (by simpa using hp) (bnd (some_wrap (by omega) (by omega)) rfl))))
  (fun i hi hp=>cnd_t (decide_eq_true (by omega)) (bndL (s:=bad b i) (body_step b hi (by omega)) (cnd_t (by simpa using hp) rfl)))
  (cnd_f (decide_eq_false (by omega)) rfl)
 by_cases hall:∀ i,i<b.length→(!bad b i)=true
 ·rw [if_pos hall] at hloop
  have ho:=bad_no hall
  cases hbn:b with
  | nil=>right; subst hbn; exact ⟨rfl,[],fun l hl=>by simp at hl,fun l hl=>by simp at hl,rfl⟩
  | cons y t =>
   rw [← hbn]
   have hpos:0<b.length:=by rw [hbn]; simp
   have hlast:b.getLast? = some (b[b.length-1]'(by omega)):=by rw [List.getLast?_eq_getElem?,get_of (by omega)]
   have key:wherryref11_Body b=some (b[b.length-1]'(by omega)==10):=by
    unfold wherryref11_Body
    refine bndL (s:=()) hloop (bndL (s:=(b[b.length-1]'(by omega)==10)) (cnd_f (by rw [beq_eq_false_iff_ne]; omega) (bnd (x:=((b.length-1:Nat):Int)) (by rw [wrap_j (by omega) (by omega)]; congr 1; omega) (bnd (ixO_of (by omega)) (bnd (getO_of (by omega)) rfl)))) rfl)
   by_cases h10:b[b.length-1]'(by omega)=10
   ·right
    rw [key,h10]
    obtain ⟨ls,h1,h2⟩:=okb_lines b.length b 0 (Nat.le_refl _) ho (by decide) (.inr (by rw [hlast,h10]))
    exact ⟨rfl,ls,h1,byt_jn (by rw [← h2]; exact hb),h2⟩
   ·left
    rw [key,beq_eq_false_iff_ne.2 h10]
 ·rw [if_neg hall] at hloop
  left
  unfold wherryref11_Body
  exact bndR (a:=false) hloop rfl
theorem rdig_go:∀ (k n:Nat) (acc:List Int) (fuel:Nat),n<10 ^ (k+1)→n<9000000000000000000→k<fuel→byt acc→acc.length+k<1000 →
   bindS (S:=(Int×ByteArray)) (A:=ByteArray)
  (loopF (S:=(Int×ByteArray)) (O:=(Int×ByteArray)⊕ByteArray) (fun ((s11,s12):Int×ByteArray) =>
   cond ((decide (9<s11)))
    ((remO s11 10).bind fun v2 =>
    (remO s11 10).bind fun v3 =>
    (some (IntKind.i64.wrap (v3+1))).bind fun v4 =>
    (subO (⟨#[48,49,50,51,52,53,54,55,56,57]⟩:ByteArray) v2 v4).bind fun v5 =>
    (catO v5 s12).bind fun v6 =>
    (quoO .i64 s11 10).bind fun v7 =>
    some (.inl (v7,v6)))
    (some (.inr (.inl (s11,s12)))))
   fuel ((n:Int),bstr acc))
  (fun ((s14,s15):Int×ByteArray) =>
   (some (IntKind.i64.wrap (s14+1))).bind fun v23 =>
   (subO (⟨#[48,49,50,51,52,53,54,55,56,57]⟩:ByteArray) s14 v23).bind fun v24 =>
   (catO v24 s15).bind fun v25 =>
   some (v25)) some=some (bstr (dgA k n acc)):=by
  intro k
  induction k with
  | zero =>
   intro n acc fuel hn _ hf hb hl
   cases fuel with
   | zero=>omega
   | succ fuel =>
    have h9:n≤9:=by simp at hn; omega
    unfold dgA
    exact bndL (loop_exit (cnd_f (decide_eq_false (by omega)) rfl)) (bnd (by rw [wrap_succ (by omega)]) (bnd (tenT_of (by omega)) (bnd (catL (sbytes_bstr (byt_dg h9)) (sbytes_bstr hb) (by simp; omega)) rfl)))
  | succ k ih =>
   intro n acc fuel hn hbig hf hb hl
   cases fuel with
   | zero=>omega
   | succ fuel =>
    by_cases h9:n≤9
    ·unfold dgA
     rw [if_pos h9]
     exact bndL (loop_exit (cnd_f (decide_eq_false (by omega)) rfl)) (bnd (by rw [wrap_succ (by omega)]) (bnd (tenT_of (by omega)) (bnd (catL (sbytes_bstr (byt_dg h9)) (sbytes_bstr hb) (by simp; omega)) rfl)))
    ·have hd:byt [48+((n % 10:Nat):Int)]:=byt_cons (by omega) byt_nil
     have hr:remO (n:Int) 10=some ((n % 10:Nat):Int):=rem_nat n 10 (by decide)
     have hq:quoO .i64 (n:Int) 10=some ((n / 10:Nat):Int):=quo_nat n 10 (by decide) (by omega)
     have hn2:n / 10<10 ^ (k+1):=by rw [Nat.pow_succ] at hn; omega
     have hih:=ih (n / 10) ((48+((n % 10:Nat):Int))::acc) fuel hn2 (by omega) (by omega) (byt_cons (by omega) hb) (by simp; omega)
     have e:dgA (k+1) n acc=dgA k (n / 10) ((48+((n % 10:Nat):Int))::acc):=by rw [dgA,if_neg h9]
     rw [e,← hih]
     congr 1
     exact loop_next (cnd_t (decide_eq_true (by omega)) (bnd hr (bnd hr (bnd (by rw [wrap_succ (by omega)]) (bnd (tenT_of (by omega)) (bnd (catL (sbytes_bstr hd) (sbytes_bstr hb) (by simp; omega)) (bnd hq rfl)))))))
theorem rdig_eq (k n:Nat) (h:n<10 ^ (k+1)) (h2:n<9000000000000000000) (hk:k<900):wherryref11_Digits (n:Int)=some (bstr (dgA k n [])) :=
 rdig_go k n [] BIG h h2 (by unfold BIG; omega) byt_nil (by simpa using by omega)
set_option maxRecDepth 100000
def rmS (m:T_Mail):((Int))→Option ((Int)⊕((Unit)⊕Bool)):=(fun (s28:Int) =>
    cond ((decide (s28<(m.To.length:Int))))
     (bindS (S:=Bool) (A:=((Int)⊕((Unit)⊕Bool)))
      ((ixO s28 m.To.length).bind fun v10 =>
      (getO m.To v10).bind fun v11 =>
      (wherryref11_Path v11).bind fun v12 =>
      cond ((!v12))
       (some (.inl true))
       ((ixO s28 m.To.length).bind fun v13 =>
       (getO m.To v13).bind fun v14 =>
       some (.inl v14.Null)))
      (fun (s42:Bool) =>
       cond (s42)
        (some (.inr (.inr (false))))
        ((some (IntKind.i64.wrap (s28+1))).bind fun v20 =>
        some (.inl v20))) some)
     (some (.inr (.inl ()))))
def rbS (b:T_Bundle):((Int))→Option ((Int)⊕((Unit)⊕Bool)):=(fun (s26:Int) =>
    cond ((decide (s26<(b.Mails.length:Int))))
     ((ixO s26 b.Mails.length).bind fun v10 =>
     (getO b.Mails v10).bind fun v11 =>
     bindS (S:=Bool) (A:=((Int)⊕((Unit)⊕Bool)))
      ((wherryref11_Mail ((T_Mail.mk (T_Path.mk v11.From.Null v11.From.Local v11.From.Domain) v11.To v11.Body v11.Quiet v11.Helo v11.At))).bind fun v12 =>
      cond ((!v12))
       (some (.inl true))
       (cond (v11.Quiet)
        (some (.inl true))
        (cond ((!(v11.Helo.toList==(⟨#[]⟩:ByteArray).toList)))
         (some (.inl true))
         (some (.inl (v11.At != 0))))))
      (fun (s40:Bool) =>
       cond (s40)
        (some (.inr (.inr (false))))
        ((some (IntKind.i64.wrap (s26+1))).bind fun v18 =>
        some (.inl v18))) some)
     (some (.inr (.inl ()))))
def rsS (b:List Int):(((List Int)×Int))→Option (((List Int)×Int)⊕(((List Int))⊕(List Int))):=(fun ((s43,s44):(List Int)×Int) =>
 cond ((decide (s44<(b.length:Int))))
  (bindS (S:=(List Int)) (A:=(((List Int)×Int)⊕(((List Int))⊕(List Int))))
   (bindS (S:=Bool) (A:=(((List Int))⊕(((List Int)×Int)⊕(((List Int))⊕(List Int)))))
    ((ixO s44 b.length).bind fun v2 =>
    (getO b v2).bind fun v3 =>
    cond ((v3==46))
     (cond ((s44==0))
      (some (.inl true))
      ((some (IntKind.i64.wrap (s44-1))).bind fun v4 =>
      (ixO v4 b.length).bind fun v5 =>
      (getO b v5).bind fun v6 =>
      some (.inl (v6==10))))
     (some (.inl false)))
    (fun (s77:Bool) =>
     cond (s77)
      ((appO 1 s43 [46]).bind fun v12 =>
      some (.inl v12))
      (some (.inl s43))) some)
   (fun (s73:(List Int)) =>
    (ixO s44 b.length).bind fun v22 =>
    (getO b v22).bind fun v23 =>
    (appO 1 s73 [v23]).bind fun v24 =>
    (some (IntKind.i64.wrap (s44+1))).bind fun v25 =>
    some (.inl (v24,v25))) some)
  (some (.inr (.inl s43))))
def rcS (b:T_Bundle):(((List Int)×Int))→Option (((List Int)×Int)⊕(((List Int))⊕(List Int))):=(fun ((s52,s53):(List Int)×Int) =>
 cond ((decide (s53<(b.Mails.length:Int))))
  ((ixO s53 b.Mails.length).bind fun v2 =>
  (getO b.Mails v2).bind fun v3 =>
  (wherryref11_Text (T_Path.mk v3.From.Null v3.From.Local v3.From.Domain)).bind fun v4 =>
  (catO (⟨#[77,65,73,76,32,70,82,79,77,58]⟩:ByteArray) v4).bind fun v5 =>
  (catO v5 (⟨#[13,10]⟩:ByteArray)).bind fun v6 =>
  (appO 1 s52 (sbytes v6)).bind fun v7 =>
  bindS (S:=((List Int))) (A:=(((List Int)×Int)⊕(((List Int))⊕(List Int))))
   (loopF (S:=((List Int)×Int)) (O:=((List Int))⊕(((List Int)×Int)⊕(((List Int))⊕(List Int)))) (fun ((s82,s83):(List Int)×Int) =>
    cond ((decide (s83<(v3.To.length:Int))))
     ((ixO s83 v3.To.length).bind fun v9 =>
     (getO v3.To v9).bind fun v10 =>
     (wherryref11_Text v10).bind fun v11 =>
     (catO (⟨#[82,67,80,84,32,84,79,58]⟩:ByteArray) v11).bind fun v12 =>
     (catO v12 (⟨#[13,10]⟩:ByteArray)).bind fun v13 =>
     (appO 1 s82 (sbytes v13)).bind fun v14 =>
     (some (IntKind.i64.wrap (s83+1))).bind fun v15 =>
     some (.inl (v14,v15)))
     (some (.inr (.inl s82))))
    BIG (v7,0))
   (fun (s85:(List Int)) =>
    (appO 1 s85 (sbytes (⟨#[68,65,84,65,13,10]⟩:ByteArray))).bind fun v30 =>
    (wherryref11_Stuff v3.Body).bind fun v31 =>
    (appO 1 v30 v31).bind fun v32 =>
    (some (IntKind.i64.wrap (s53+1))).bind fun v33 =>
    some (.inl (v32,v33))) some)
  (some (.inr (.inl s52))))
def rtS (v3:T_Mail):(((List Int)×Int))→Option (((List Int)×Int)⊕(((List Int))⊕(((List Int)×Int)⊕(((List Int))⊕(List Int))))):=(fun ((s82,s83):(List Int)×Int) =>
    cond ((decide (s83<(v3.To.length:Int))))
     ((ixO s83 v3.To.length).bind fun v9 =>
     (getO v3.To v9).bind fun v10 =>
     (wherryref11_Text v10).bind fun v11 =>
     (catO (⟨#[82,67,80,84,32,84,79,58]⟩:ByteArray) v11).bind fun v12 =>
     (catO v12 (⟨#[13,10]⟩:ByteArray)).bind fun v13 =>
     (appO 1 s82 (sbytes v13)).bind fun v14 =>
     (some (IntKind.i64.wrap (s83+1))).bind fun v15 =>
     some (.inl (v14,v15)))
     (some (.inr (.inl s82))))
def ryS (b:List Int) (divisor:Int):((Int×Int))→Option ((Int×Int)⊕((Int)⊕Int)):=(fun ((s97,s98):Int×Int) =>
 cond ((decide (s98<(b.length:Int))))
  (bindS (S:=(Int)) (A:=((Int×Int)⊕((Int)⊕Int)))
   (loopF (S:=(Int×Int)) (O:=(Int)⊕((Int×Int)⊕((Int)⊕Int))) (fun ((s163,s164):Int×Int) =>
    cond ((decide (s164<8)))
     (bindS (S:=Int) (A:=((Int×Int)⊕((Int)⊕((Int×Int)⊕((Int)⊕Int)))))
      ((some (bits .and .i64 s163 1)).bind fun v6 =>
      (shrO .i64 s163 1).bind fun v7 =>
      (ixO s98 b.length).bind fun v8 =>
      (getO b v8).bind fun v9 =>
      (some (IntKind.u64.wrap s164)).bind fun v10 =>
      (shrO .u8 v9 v10).bind fun v11 =>
      (some (IntKind.i64.wrap v11)).bind fun v12 =>
      (some (bits .and .i64 v12 1)).bind fun v13 =>
      cond ((v6 != v13))
       ((some (bits .xor .i64 v7 divisor)).bind fun v15 =>
       some (.inl v15))
       (some (.inl v7)))
      (fun (s181:Int) =>
       (some (IntKind.i64.wrap (s164+1))).bind fun v21 =>
       some (.inl (s181,v21))) some)
     (some (.inr (.inl s163))))
    BIG (s97,0))
   (fun (s172:Int) =>
    (some (IntKind.i64.wrap (s98+1))).bind fun v54 =>
    some (.inl (s172,v54))) some)
  (some (.inr (.inl s97))))
def rzS (b:List Int) (divisor s98:Int):((Int×Int))→Option ((Int×Int)⊕((Int)⊕((Int×Int)⊕((Int)⊕Int)))):=(fun ((s163,s164):Int×Int) =>
    cond ((decide (s164<8)))
     (bindS (S:=Int) (A:=((Int×Int)⊕((Int)⊕((Int×Int)⊕((Int)⊕Int)))))
      ((some (bits .and .i64 s163 1)).bind fun v6 =>
      (shrO .i64 s163 1).bind fun v7 =>
      (ixO s98 b.length).bind fun v8 =>
      (getO b v8).bind fun v9 =>
      (some (IntKind.u64.wrap s164)).bind fun v10 =>
      (shrO .u8 v9 v10).bind fun v11 =>
      (some (IntKind.i64.wrap v11)).bind fun v12 =>
      (some (bits .and .i64 v12 1)).bind fun v13 =>
      cond ((v6 != v13))
       ((some (bits .xor .i64 v7 divisor)).bind fun v15 =>
       some (.inl v15))
       (some (.inl v7)))
      (fun (s181:Int) =>
       (some (IntKind.i64.wrap (s164+1))).bind fun v21 =>
       some (.inl (s181,v21))) some)
     (some (.inr (.inl s163))))
/-! The page's bundle. -/
theorem rin_eq (n lo hi:Int):wherryref11_in n lo hi=some (decide (lo≤n)&&decide (n≤hi)):=by
 unfold wherryref11_in
 by_cases h:lo≤n
 ·exact bndL (s:=decide (n≤hi)) (cnd_t (decide_eq_true h) rfl) (by rw [decide_eq_true h,Bool.true_and])
 ·exact bndL (s:=false) (cnd_f (decide_eq_false h) rfl) (by rw [decide_eq_false h,Bool.false_and])
theorem rmail_any {m:T_Mail} (h:LM m) (hb:byt m.Body):∃ c,wherryref11_Mail m=some c∧(c=true→maiB m=true):=by
 have hl:=(lm_small h).2.2.1
 have hT:=h.1
 unfold wherryref11_Mail
 have e1:=rpath_eq (T_Path.mk m.From.Null m.From.Local m.From.Domain)
 rw [show T_Path.mk m.From.Null m.From.Local m.From.Domain=m.From from rfl] at e1 ⊢
 by_cases hF:patB m.From=true
 case neg=>exact ⟨false,bndL (s:=true) (bnd e1 (cnd_t (by rw [Bool.eq_false_iff.2 hF]; rfl) rfl)) (cnd_t rfl rfl),fun h=>by cases h⟩
 have nF:(!patB m.From)=false:=by rw [hF]; rfl
 by_cases hn:1≤m.To.length∧m.To.length≤8
 case neg =>
  refine ⟨false,bndL (s:=true) (bnd e1 (cnd_f nF (bnd (rin_eq _ _ _) (cnd_t ?_ rfl)))) (cnd_t rfl rfl),fun h=>by cases h⟩
  rw [Bool.not_eq_true']
  rw [Bool.and_eq_false_iff]
  by_cases h1:1≤m.To.length
  ·exact .inr (decide_eq_false (by omega))
  ·exact .inl (decide_eq_false (by omega))
 have nN:(!(decide ((1:Int)≤(m.To.length:Int))&&decide ((m.To.length:Int)≤8)))=false:=by rw [decide_eq_true (by omega),decide_eq_true (by omega)]; rfl
 rcases body_any m.Body hb (by omega) with hbd | ⟨hbd,ls,a,b,c⟩
 ·exact ⟨false,bndL (s:=true) (bnd e1 (cnd_f nF (bnd (rin_eq _ _ _) (cnd_f nN (bnd hbd (cnd_t rfl rfl)))))) (cnd_t rfl rfl),fun h=>by cases h⟩
 have hd:dots_Check m.Body=some 0:=by rw [c]; exact check_ok a b (by rw [← jn_len,← c]; omega)
 by_cases h4:m.Body.length≤4096
 case neg=>exact ⟨false,bndL (s:=true) (bnd e1 (cnd_f nF (bnd (rin_eq _ _ _) (cnd_f nN (bnd hbd (cnd_f rfl (inl_of (decide_eq_true (by omega))))))))) (cnd_t rfl rfl),fun h=>by cases h⟩
 have hlp:=loop_all (R:=Bool) (f:=rmS m) (fun i=>rcB (m.To.getD i noP)) m.To.length false (fuel:=BIG) (by simp only [BIG]; omega) (fun i hi hp=>by
  have hg:getO m.To i=some (m.To.getD i noP):=getOD noP hi
  have hp:rcB (m.To.getD i noP)=true:=hp
  unfold rcB at hp
  rw [Bool.and_eq_true] at hp
  exact cnd_t (decide_eq_true (by omega)) (bndL (s:=false) (bnd (ixO_of hi) (bnd hg (bnd (rpath_eq _) (cnd_f (by rw [hp.1]; rfl) (bnd (ixO_of hi) (bnd hg (inl_of (by simpa using hp.2)))))))) (cnd_f rfl (bnd (congrArg some (wrap_succ (n:=i) (by omega))) rfl)))) (fun i hi hp=>by
  have hg:getO m.To i=some (m.To.getD i noP):=getOD noP hi
  have hp:rcB (m.To.getD i noP)=false:=hp
  unfold rcB at hp
  by_cases h1:patB (m.To.getD i noP)=true
  ·rw [h1,Bool.true_and] at hp
   exact cnd_t (decide_eq_true (by omega)) (bndL (s:=true) (bnd (ixO_of hi) (bnd hg (bnd (rpath_eq _) (cnd_f (by rw [h1]; rfl) (bnd (ixO_of hi) (bnd hg (inl_of (by simpa using hp)))))))) (cnd_t rfl rfl))
  ·exact cnd_t (decide_eq_true (by omega)) (bndL (s:=true) (bnd (ixO_of hi) (bnd hg (bnd (rpath_eq _) (cnd_t (by rw [Bool.eq_false_iff.2 h1]; rfl) rfl)))) (cnd_t rfl rfl))) (cnd_f (decide_eq_false (by omega)) rfl)
 have pre:(wherryref11_Path m.From).bind (fun v1=>cond ((!v1)) (some (.inl true)) ((wherryref11_in (m.To.length:Int) 1 8).bind fun v2=>cond ((!v2)) (some (.inl true)) ((wherryref11_Body m.Body).bind fun v3=>cond ((!v3)) (some (.inl true)) (some (.inl ((decide (4096<(m.Body.length:Int)))))))))=(some (.inl false):Option (Bool⊕Bool)):=bnd e1 (cnd_f nF (bnd (rin_eq _ _ _) (cnd_f nN (bnd hbd (cnd_f rfl (inl_of (decide_eq_false (by omega))))))))
 by_cases ha:m.To.all rcB=true
 ·rw [if_pos ((all_getD noP rcB m.To).2 ha)] at hlp
  refine ⟨true,bndL (s:=false) pre (cnd_f rfl (bndL hlp rfl)),fun _ => ?_⟩
  unfold maiB envB bodB
  rw [hF,ha,hd,decide_eq_true hn,decide_eq_true h4]
  rfl
 ·rw [if_neg fun h=>ha ((all_getD noP rcB m.To).1 h)] at hlp
  exact ⟨false,bndL (s:=false) pre (cnd_f rfl (bndR hlp rfl)),fun h=>by cases h⟩
def rmB (m:T_Mail):Bool:=(wherryref11_Mail m).getD false&&(!m.Quiet&&(decide (m.Helo=e0)&&decide (m.At=0)))
theorem rbun_any {b:T_Bundle} (hm:∀ m∈b.Mails,LM m∧byt m.Body) (hl:b.Mails.length≤20):∃ c,wherryref11_Bundle b=some c∧(c=true→bunB b=true):=by
 unfold wherryref11_Bundle
 by_cases ho:0≤b.Origin∧b.Origin≤1
 case neg =>
  refine ⟨false,bndL (s:=true) (bnd (rin_eq _ _ _) (cnd_t ?_ rfl)) (cnd_t rfl rfl),fun h=>by cases h⟩
  rw [Bool.not_eq_true',Bool.and_eq_false_iff]
  by_cases h1:0≤b.Origin
  ·exact .inr (decide_eq_false (by omega))
  ·exact .inl (decide_eq_false (by omega))
 have no:(!(decide ((0:Int)≤b.Origin)&&decide (b.Origin≤1)))=false:=by rw [decide_eq_true ho.1,decide_eq_true ho.2]; rfl
 by_cases hn:1≤b.Number∧b.Number≤65535
 case neg =>
  refine ⟨false,bndL (s:=true) (bnd (rin_eq _ _ _) (cnd_f no (bnd (rin_eq _ _ _) (cnd_t ?_ rfl)))) (cnd_t rfl rfl),fun h=>by cases h⟩
  rw [Bool.not_eq_true',Bool.and_eq_false_iff]
  by_cases h1:1≤b.Number
  ·exact .inr (decide_eq_false (by omega))
  ·exact .inl (decide_eq_false (by omega))
 have nn:(!(decide ((1:Int)≤b.Number)&&decide (b.Number≤65535)))=false:=by rw [decide_eq_true hn.1,decide_eq_true hn.2]; rfl
 by_cases hk:1≤b.Mails.length∧b.Mails.length≤4
 case neg =>
  refine ⟨false,bndL (s:=true) (bnd (rin_eq _ _ _) (cnd_f no (bnd (rin_eq _ _ _) (cnd_f nn (bnd (rin_eq _ _ _) (inl_of ?_)))))) (cnd_t rfl rfl),fun h=>by cases h⟩
  rw [Bool.not_eq_true',Bool.and_eq_false_iff]
  by_cases h1:1≤b.Mails.length
  ·exact .inr (decide_eq_false (by omega))
  ·exact .inl (decide_eq_false (by omega))
 have nk:(!(decide ((1:Int)≤(b.Mails.length:Int))&&decide ((b.Mails.length:Int)≤4)))=false:=by rw [decide_eq_true (by omega),decide_eq_true (by omega)]; rfl
 have hlp:=loop_all (R:=Bool) (f:=rbS b) (fun i=>rmB (b.Mails.getD i zM17)) b.Mails.length false (fuel:=BIG) (by simp only [BIG]; omega) (fun i hi hp=>by
  have hg:getO b.Mails i=some (b.Mails.getD i zM17):=getOD zM17 hi
  obtain ⟨lm,hb⟩:=hm _ (memD zM17 hi)
  obtain ⟨c,hc,_⟩:=rmail_any lm hb
  generalize b.Mails.getD i zM17=m at *
  unfold rmB at hp
  rw [hc,Option.getD_some,Bool.and_eq_true,Bool.and_eq_true,Bool.and_eq_true] at hp
  obtain ⟨h1,h2,h3,h4⟩:=hp
  subst h1
  have h2:m.Quiet=false:=by simpa using h2
  have h3:=of_decide_eq_true h3
  have h4:=of_decide_eq_true h4
  refine cnd_t (decide_eq_true (by omega)) (bnd (ixO_of hi) (bnd hg (bndL (s:=false) (bnd (x:=true) hc (cnd_f rfl (cnd_f h2 (cnd_f ?_ (inl_of ?_))))) (cnd_f rfl (bnd (congrArg some (wrap_succ (n:=i) (by omega))) rfl)))))
  ·rw [toList_beq,h3,show (⟨#[]⟩:ByteArray)=e0 from rfl,decide_eq_true rfl]; rfl
  ·rw [h4]; rfl) (fun i hi hp=>by
  have hg:getO b.Mails i=some (b.Mails.getD i zM17):=getOD zM17 hi
  obtain ⟨lm,hb⟩:=hm _ (memD zM17 hi)
  obtain ⟨c,hc,_⟩:=rmail_any lm hb
  generalize b.Mails.getD i zM17=m at *
  unfold rmB at hp
  rw [hc,Option.getD_some] at hp
  refine cnd_t (decide_eq_true (by omega)) (bnd (ixO_of hi) (bnd hg (bndL (s:=true) (bnd (x:=c) hc ?_) (cnd_t rfl rfl))))
  cases c
  ·exact cnd_t rfl rfl
  refine cnd_f rfl ?_
  rw [Bool.true_and] at hp
  cases hq:m.Quiet
  ·rw [hq,Bool.not_false,Bool.true_and] at hp
   refine cnd_f rfl ?_
   by_cases hh:m.Helo=e0
   ·rw [decide_eq_true hh,Bool.true_and] at hp
    have:=of_decide_eq_false hp
    exact cnd_f (by rw [toList_beq,hh,show (⟨#[]⟩:ByteArray)=e0 from rfl,decide_eq_true rfl]; rfl) (inl_of (bne_iff_ne.2 this))
   ·refine cnd_t ?_ rfl
    rw [toList_beq,show (⟨#[]⟩:ByteArray)=e0 from rfl,decide_eq_false hh]; rfl
  ·exact cnd_t rfl rfl) (cnd_f (decide_eq_false (by omega)) rfl)
 have pre:(wherryref11_in b.Origin 0 1).bind (fun v1=>cond ((!v1)) (some (.inl true)) ((wherryref11_in b.Number 1 65535).bind fun v2=>cond ((!v2)) (some (.inl true)) ((wherryref11_in (b.Mails.length:Int) 1 4).bind fun v3=>some (.inl (!v3)))))=(some (.inl false):Option (Bool⊕Bool)):=bnd (rin_eq _ _ _) (cnd_f no (bnd (rin_eq _ _ _) (cnd_f nn (bnd (rin_eq _ _ _) (inl_of nk)))))
 by_cases ha:b.Mails.all rmB=true
 ·rw [if_pos ((all_getD zM17 rmB b.Mails).2 ha)] at hlp
  refine ⟨true,bndL (s:=false) pre (cnd_f rfl (bndL hlp rfl)),fun _ => ?_⟩
  have hp:b.Mails.all plnB=true:=List.all_eq_true.2 fun m hmm=>by
   have h1:=List.all_eq_true.1 ha m hmm
   obtain ⟨lm,hb⟩:=hm m hmm
   obtain ⟨c,hc,hc2⟩:=rmail_any lm hb
   unfold rmB at h1
   rw [hc,Option.getD_some,Bool.and_eq_true] at h1
   unfold plnB
   rw [hc2 h1.1,h1.2]
   rfl
  unfold bunB
  rw [hp,decide_eq_true hk,decide_eq_true (show (b.Origin=0∨b.Origin=1)∧1≤b.Number∧b.Number≤65535 by omega)]
  rfl
 ·rw [if_neg fun h=>ha ((all_getD zM17 rmB b.Mails).1 h)] at hlp
  exact ⟨false,bndL (s:=false) pre (cnd_f rfl (bndR hlp rfl)),fun h=>by cases h⟩
/-! What is put on the line. -/
def rst:Bool→List Int→List Int
 | _,[]=>[]
 | f,c::t=>(if c=46∧f=true then [46,c] else [c])++rst (decide (c=10)) t
theorem rst_line:∀ (l r:List Int),cln l→rst false (l++13::10::r)=l++13::10::rst true r
 | [],r,h=>by simp [rst]
 | c::l,r,h=>by
  have hc:=h c (by simp)
  have ih:=rst_line l r (fun x hx=>h x (by simp [hx]))
  simp [rst,hc.2,ih]
theorem rst_jn:∀ (ls:List (List Int)),(∀ l∈ls,cln l)→rst true (jn ls)=jn (ls.map stf)
 | [],h=>by simp [rst,jn]
 | l::ls,h=>by
  have ih:=rst_jn ls (fun x hx=>h x (by simp [hx]))
  have hl:=h l (by simp)
  rw [List.map_cons,jn,jn,← ih]
  cases l with
  | nil=>simp [rst,stf]
  | cons c t =>
   have hc:=hl c (by simp)
   have ht:=rst_line t (jn ls) (fun x hx=>hl x (by simp [hx]))
   by_cases h46:c=46
   ·simp [rst,stf,h46,ht]
   ·simp [rst,stf,h46,hc.2,ht]
def flg (b:List Int) (i:Nat):Bool:=decide (i=0)||decide (b.getD (i-1) 0=10)
theorem rs_loop {b:List Int} (hl:b.length≤100000):∀ (k i fuel:Nat) (s:List Int),i+k=b.length→k<fuel→s.length+2 * k≤1000000 →
  loopF (rsS b) fuel (s,(i:Int))=some (.inl (s++rst (flg b i) (b.drop i)))
 | 0,i,fuel,s,hk,hf,hs=>by
  obtain ⟨fu,rfl⟩:∃ fu,fuel=fu+1:=⟨fuel-1,by omega⟩
  rw [List.drop_eq_nil_of_le (by omega),rst,List.append_nil]
  exact loop_exit (cnd_f (decide_eq_false (by omega)) rfl)
 | k+1,i,fuel,s,hk,hf,hs=>by
  obtain ⟨fu,rfl⟩:∃ fu,fuel=fu+1:=⟨fuel-1,by omega⟩
  have hi:i<b.length:=by omega
  have hg:getO b i=some b[i]:=by simp [getO,hi]
  have hix:=ixO_of hi
  have hfl:flg b (i+1)=decide (b[i]=10):=by
   unfold flg
   rw [decide_eq_false (by omega),Bool.false_or,Nat.add_sub_cancel,List.getD_eq_getElem?_getD,List.getElem?_eq_getElem hi]
   rfl
  have hd:b.drop i=b[i]::b.drop (i+1):=List.drop_eq_getElem_cons hi
  rw [hd,rst,← hfl]
  have tail:∀ s':List Int,s'.length+1+2 * k≤1000000→(∀ r,(ixO (i:Int) b.length).bind (fun v22=>(getO b v22).bind fun v23=>(appO 1 s' [v23]).bind fun v24=>(some (IntKind.i64.wrap ((i:Int)+1))).bind fun v25=>some (Sum.inl (v24,v25)))=some (r:(List Int×Int)⊕(List Int⊕List Int))↔r = .inl (s'++[b[i]],((i+1:Nat):Int))):=fun s' h' r=>by
   have h:=bnd (f:=fun v22=>(getO b v22).bind fun v23=>(appO 1 s' [v23]).bind fun v24=>(some (IntKind.i64.wrap ((i:Int)+1))).bind fun v25=>some (Sum.inl (v24,v25))) hix (bnd hg (bnd (app_of (l:=s') (m:=[b[i]]) (by simp only [List.length_cons,List.length_nil]; omega) (by simp only [List.length_cons,List.length_nil]; omega)) (bnd (congrArg some (wrap_succ (n:=i) (by omega))) (rfl:(some (Sum.inl (s'++[b[i]],((i+1:Nat):Int))):Option ((List Int×Int)⊕(List Int⊕List Int)))=_))))
   rw [h]
   exact ⟨fun e=>(Option.some.inj e).symm,fun e=>by rw [e]⟩
  by_cases h46:b[i]=46
  ·by_cases hff:flg b i=true
   ·rw [if_pos ⟨h46,hff⟩]
    have ih:=rs_loop hl k (i+1) fu (s++[46]++[b[i]]) (by omega) (by omega) (by simp only [List.length_append,List.length_cons,List.length_nil]; omega)
    rw [show s++([46,b[i]]++rst (flg b (i+1)) (b.drop (i+1)))=s++[46]++[b[i]]++rst (flg b (i+1)) (b.drop (i+1)) by simp]
    refine (loop_next (s':=(s++[46]++[b[i]],((i+1:Nat):Int))) ?_).trans ih
    have hin:(cond ((i:Int)==0) (some (.inl true)) ((some (IntKind.i64.wrap ((i:Int)-1))).bind fun v4=>(ixO v4 b.length).bind fun v5=>(getO b v5).bind fun v6=>some (.inl (v6==10))):Option (Bool⊕(List Int⊕((List Int×Int)⊕(List Int⊕List Int)))))=some (.inl true):=by
     by_cases h0:i=0
     ·exact cnd_t (beq_iff_eq.2 (by omega)) rfl
     ·have h10:b.getD (i-1) 0=10:=by
       unfold flg at hff
       rw [decide_eq_false h0,Bool.false_or] at hff
       exact of_decide_eq_true hff
      have hw:IntKind.i64.wrap ((i:Int)-1)=((i-1:Nat):Int):=by rw [wrap_i64 (by omega) (by omega)]; omega
      exact cnd_f (beq_eq_false_iff_ne.2 (by omega)) (bnd (congrArg some hw) (bnd (ixO_of (show i-1<b.length by omega)) (bnd (getOD 0 (show i-1<b.length by omega)) (by rw [h10]; rfl))))
    exact cnd_t (decide_eq_true (by omega)) (bndL (s:=s++[46]) (bndL (s:=true) (bnd hix (bnd hg (cnd_t (beq_iff_eq.2 h46) hin))) (cnd_t rfl (bnd (app_of (m:=[46]) (by simp only [List.length_cons,List.length_nil]; omega) (by simp only [List.length_cons,List.length_nil]; omega)) rfl))) ((tail (s++[46]) (by simp only [List.length_append,List.length_cons,List.length_nil]; omega) _).2 rfl))
   ·rw [if_neg (fun h=>hff h.2)]
    have ih:=rs_loop hl k (i+1) fu (s++[b[i]]) (by omega) (by omega) (by simp only [List.length_append,List.length_cons,List.length_nil]; omega)
    rw [← List.append_assoc]
    refine (loop_next (s':=(s++[b[i]],((i+1:Nat):Int))) ?_).trans ih
    have hff:=Bool.eq_false_iff.2 hff
    unfold flg at hff
    rw [Bool.or_eq_false_iff] at hff
    have h0:=of_decide_eq_false hff.1
    have h10:=of_decide_eq_false hff.2
    have hw:IntKind.i64.wrap ((i:Int)-1)=((i-1:Nat):Int):=by rw [wrap_i64 (by omega) (by omega)]; omega
    exact cnd_t (decide_eq_true (by omega)) (bndL (s:=s) (bndL (s:=false) (bnd hix (bnd hg (cnd_t (beq_iff_eq.2 h46) (cnd_f (beq_eq_false_iff_ne.2 (by omega)) (bnd (congrArg some hw) (bnd (ixO_of (show i-1<b.length by omega)) (bnd (getOD 0 (show i-1<b.length by omega)) (by rw [beq_eq_false_iff_ne.2 h10])))))))) (cnd_f rfl rfl)) ((tail s (by omega) _).2 rfl))
  ·rw [if_neg (fun h=>h46 h.1)]
   have ih:=rs_loop hl k (i+1) fu (s++[b[i]]) (by omega) (by omega) (by simp only [List.length_append,List.length_cons,List.length_nil]; omega)
   rw [← List.append_assoc]
   refine (loop_next (s':=(s++[b[i]],((i+1:Nat):Int))) ?_).trans ih
   exact cnd_t (decide_eq_true (by omega)) (bndL (s:=s) (bndL (s:=false) (bnd hix (bnd hg (cnd_f (beq_eq_false_iff_ne.2 h46) rfl))) (cnd_f rfl rfl)) ((tail s (by omega) _).2 rfl))
theorem rstuff_eq {m:T_Mail} (h:Vm m):wherryref11_Stuff m.Body=some (stfB m.Body):=by
 obtain ⟨ls,h1,h2,h3⟩:=h.bd
 have hl:=(lm_small h.lm).2.2.1
 have ht:tot ls≤20000:=by rw [← jn_len,← h3]; exact hl
 have hs:=stuff_ok h1 h2 (by omega:tot ls<1000000000)
 rw [← h3] at hs
 have e:stfB m.Body=jn (ls.map stf++[[46]]):=by unfold stfB; rw [hs]; rfl
 have hlp:=rs_loop (b:=m.Body) (by omega) m.Body.length 0 BIG [] (by omega) (by simp only [BIG]; omega) (by simp only [List.length_nil]; omega)
 have hr:rst (flg m.Body 0) (m.Body.drop 0)=jn (ls.map stf):=by
  rw [List.drop_zero,h3,← rst_jn ls h1]; rfl
 rw [hr,List.nil_append] at hlp
 have hlen:(jn (ls.map stf)).length≤40000:=by rw [jn_len]; have:=tot_stf ls; omega
 unfold wherryref11_Stuff
 refine bndL hlp (bnd (app_of (m:=[46,13,10]) (by simp only [List.length_cons,List.length_nil]; omega) (by simp only [List.length_cons,List.length_nil]; omega)) ?_)
 rw [e,jn_app]
 rfl
theorem rline {word:ByteArray} {w:List Int} {p:T_Path} (hw:sbytes word=w) (hwl:w.length≤100) (hs:Small p) (hpl:pW p≤20000) {R:Type} {f:ByteArray→Option R} {r:Option R} (hr:∀ v,sbytes v=lnL w p→f v=r) :
  (wherryref11_Text p).bind (fun v4=>(catO word v4).bind fun v5=>(catO v5 (⟨#[13,10]⟩:ByteArray)).bind f)=r:=by
 have hl:=txt_len hpl
 have hb:sbytes (bstr (txtL p))=txtL p:=sbytes_bstr (byt_txt p)
 have hwb:byt w:=by rw [← hw]; exact byt_sbytes word
 have h2:sbytes (bstr (w++txtL p))=w++txtL p:=sbytes_bstr (byt_app hwb (byt_txt p))
 have h3:byt [13,10]:=by intro x hx; simp only [List.mem_cons,List.not_mem_nil,or_false] at hx; omega
 have h4:sbytes (bstr ((w++txtL p)++[13,10]))=lnL w p:=by rw [sbytes_bstr (byt_app (byt_app hwb (byt_txt p)) h3)]; simp [lnL]
 exact bnd (rtext_eq p hs) (bnd (catL hw hb (by omega)) (bnd (catL h2 sbE (by simp only [List.length_append,List.length_cons,List.length_nil]; omega)) (hr _ h4)))
theorem rt_loop {m:T_Mail} (h:Vm m) (A:List Int) (hA:A.length≤100000000):loopF (rtS m) BIG (A,0)=some (.inl (A++rcs m.To)):=by
 obtain ⟨h1,h2⟩:=lm_pw h.lm
 have hsm:=(lm_small h.lm).2.1
 have d:=h.lm.1
 refine loop_from (fun i=>(A++rcs (m.To.take i),((i:Nat):Int))) m.To.length BIG (by simp [rcs]) (by simp only [BIG]; omega) (fun i hi => ?_) ?_
 ·have hm:=List.getElem_mem hi
  have hb:=rcs_len (l:=m.To.take i) fun p hp=>h2 p (List.mem_of_mem_take hp)
  have hbl:(m.To.take i).length≤40:=by simp only [List.length_take]; omega
  have hb':(m.To.take i).length * 20200≤40 * 20200:=Nat.mul_le_mul_right _ hbl
  have e:rcs (m.To.take (i+1))=rcs (m.To.take i)++lnL rcptW m.To[i]:=by
   rw [List.take_succ_eq_append_getElem hi,rcs_app]
   simp only [rcs,List.append_nil]
  have hll:=lnL_len (w:=rcptW) (by decide) (h2 _ hm)
  refine cnd_t (decide_eq_true (by omega)) (bnd (ixO_of hi) (bnd (by simp [getO,hi]:getO m.To i=some m.To[i]) (rline (w:=rcptW) rfl (by decide) (hsm _ hm) (h2 _ hm) fun v hv => ?_)))
  rw [hv]
  refine bnd (app_of (by simp only [List.length_append]; omega) (by simp only [List.length_append]; omega)) (bnd (congrArg some (wrap_succ (n:=i) (by omega))) ?_)
  rw [e,List.append_assoc]
 ·simp only [List.take_length]
  exact cnd_f (decide_eq_false (by omega)) rfl
theorem rcom_eq {b:T_Bundle} (h:∀ m∈b.Mails,Vm m) (hl:b.Mails.length≤20):wherryref11_commands b=some (comL b.Mails):=by
 unfold wherryref11_commands
 have hcl:=cmds_len h
 refine bndL (s:=cmds b.Mails) (loop_from (f:=rcS b) (fun i=>(cmds (b.Mails.take i),((i:Nat):Int))) b.Mails.length BIG (by simp [cmds]) (by simp only [BIG]; omega) (fun i hi => ?_) ?_) (bnd (app_of (by simp only [sbytes_len]; show _≤_; have:(⟨#[81,85,73,84,13,10]⟩:ByteArray).size=6:=rfl; omega) (by simp only [sbytes_len]; have:(⟨#[81,85,73,84,13,10]⟩:ByteArray).size=6:=rfl; omega)) rfl)
 ·have hm:=h _ (List.getElem_mem hi)
  obtain ⟨h1,h2⟩:=lm_pw hm.lm
  have hsm:=lm_small hm.lm
  have hb:=cmds_len (l:=b.Mails.take i) fun p hp=>h p (List.mem_of_mem_take hp)
  have hbl:(b.Mails.take i).length≤20:=by simp only [List.length_take]; omega
  have hb':(b.Mails.take i).length * 1000000≤20 * 1000000:=Nat.mul_le_mul_right _ hbl
  have a:=lnL_len (w:=mailW) (by decide) h1
  have hr:=rcs_len h2
  have hr':b.Mails[i].To.length * 20200≤40 * 20200:=Nat.mul_le_mul_right _ hm.lm.1
  obtain ⟨_,hs2⟩:=stfB_eq hm
  have hs1:=rstuff_eq hm
  have e:cmds (b.Mails.take (i+1))=cmds (b.Mails.take i)++cmd b.Mails[i]:=by
   rw [List.take_succ_eq_append_getElem hi,cmds_app]
   simp only [cmds,List.append_nil]
  refine cnd_t (decide_eq_true (by omega)) (bnd (ixO_of hi) (bnd (by simp [getO,hi]:getO b.Mails i=some b.Mails[i]) (rline (w:=mailW) (p:=b.Mails[i].From) rfl (by decide) hsm.1 h1 fun v hv => ?_)))
  rw [hv]
  refine bnd (app_of (by omega) (by omega)) (bndL (rt_loop hm _ (by simp only [List.length_append]; omega)) (bnd (app_of (m:=[68,65,84,65,13,10]) (by simp only [List.length_append,List.length_cons,List.length_nil]; omega) (by simp only [List.length_append,List.length_cons,List.length_nil]; omega)) (bnd hs1 (bnd (app_of (by simp only [List.length_append,List.length_cons,List.length_nil]; omega) (by simp only [List.length_append,List.length_cons,List.length_nil]; omega)) (bnd (congrArg some (wrap_succ (n:=i) (by omega))) ?_)))))
  rw [e]
  simp only [cmd,List.append_assoc]
 ·simp only [List.take_length]
  exact cnd_f (decide_eq_false (by omega)) rfl
set_option maxRecDepth 100000
theorem xor_i64e (a b:Nat) (ha:a<9223372036854775808) (hb:b<9223372036854775808):bits .xor .i64 (a:Int) (b:Int)=((a ^^^ b:Nat):Int):=by
 have hx:a ^^^ b<2 ^ 63:=Nat.xor_lt_two_pow (by omega) (by omega)
 show IntKind.i64.wrap ((BitVec.ofInt 64 (a:Int) ^^^ BitVec.ofInt 64 (b:Int)).toNat:Int)=_
 rw [BitVec.toNat_xor,ofInt64 a ha,ofInt64 b hb,wrap_i64 (by omega) (by omega)]
def dvL:Nat:=3988292384
theorem ry_bits (b:List Int) (j:Nat) (hj:j<b.length) (x r:Nat) (hx:b[j]=(x:Int)) (hx256:x<256):∀ (k fuel t q:Nat),8-t=k→t≤8→k<fuel→q<4294967296→q ^^^ x / 2 ^ t=sn dvL t (r ^^^ x) →
  loopF (rzS b (dvL:Int) (j:Int)) fuel ((q:Int),(t:Int))=some (.inl ((sn dvL 8 (r ^^^ x):Nat):Int)):=by
 intro k
 induction k with
 | zero =>
  intro fuel t q hk ht hf hq he
  obtain ⟨f,rfl⟩:∃ f,fuel=f+1:=⟨fuel-1,by omega⟩
  have:t=8:=by omega
  subst this
  refine loop_exit ?_
  unfold rzS
  refine cnd_f (by simp) ?_
  rw [Nat.div_eq_of_lt (show x<2 ^ 8 by omega),Nat.xor_zero] at he
  rw [he]
 | succ k ih =>
  intro fuel t q hk ht hf hq he
  obtain ⟨f,rfl⟩:∃ f,fuel=f+1:=⟨fuel-1,by omega⟩
  have w1:IntKind.i64.wrap ((t:Int)+1)=((t+1:Nat):Int):=by rw [wrap_i64 (by omega) (by omega)]; simp
  have wu:IntKind.u64.wrap (t:Int)=(t:Int):=wrap_u64s (by omega) (by omega)
  have hsr:=shr_nat .i64 q 1 (by decide)
  rw [Nat.pow_one,show ((1:Nat):Int)=1 from rfl] at hsr
  have hsx:=shr_nat .u8 x t (by simp only [IntKind.bits]; omega)
  have hdv:x / 2 ^ t<256:=Nat.lt_of_le_of_lt (Nat.div_le_self _ _) hx256
  have hnext:sn dvL (t+1) (r ^^^ x)=s0 dvL (q ^^^ x / 2 ^ t):=by
   rw [he,sn_add]; rfl
  have hX2:x / 2 ^ (t+1)=x / 2 ^ t / 2:=by rw [Nat.pow_succ,Nat.div_div_eq_div_mul]
  generalize x / 2 ^ t=X at *
  have wX:IntKind.i64.wrap (X:Int)=(X:Int):=wrap_i64 (by omega) (by omega)
  have hqx:q / 2<4294967296:=by omega
  have hx2:(q / 2 ^^^ dvL)<2 ^ 32:=Nat.xor_lt_two_pow (by omega) (by unfold dvL; omega)
  have e32:(2:Nat) ^ 32=4294967296:=by decide
  have hs0:s0 dvL (q ^^^ X)=(q / 2 ^^^ (if q % 2≠X % 2 then dvL else 0)) ^^^ X / 2:=by
   unfold s0
   rw [Nat.xor_div_two,xor_mod2]
   have h1:q % 2=0∨q % 2=1:=by omega
   have h2:X % 2=0∨X % 2=1:=by omega
   rcases h1 with h1 | h1 <;> rcases h2 with h2 | h2 <;> rw [h1,h2] <;> simp <;> rw [Nat.xor_assoc,Nat.xor_comm (X / 2),← Nat.xor_assoc]
  by_cases hne:q % 2=X % 2
  ·have e:¬ q % 2≠X % 2:=fun h=>h hne
   rw [if_neg e,Nat.xor_zero] at hs0
   refine (loop_next ?_).trans (ih f (t+1) (q / 2) (by omega) (by omega) (by omega) hqx (by rw [hX2,hnext,hs0]))
   unfold rzS
   refine cnd_t (by simp; omega) (bndL (s:=((q / 2:Nat):Int)) (bnd (x:=((q % 2:Nat):Int)) (by rw [and1_i64 _ (by omega)]) (bnd hsr (bnd (ixO_of hj) (bnd (x:=(x:Int)) (by rw [getO_of hj,hx]) (bnd (x:=(t:Int)) (by rw [wu]) (bnd hsx (bnd (x:=(X:Int)) (by rw [wX]) (bnd (x:=((X % 2:Nat):Int)) (by rw [and1_i64 _ (by omega)]) (cnd_f ?_ rfl))))))))) (bnd (x:=((t+1:Nat):Int)) (by rw [w1]) rfl))
   rw [hne]; simp
  ·rw [if_pos hne] at hs0
   refine (loop_next ?_).trans (ih f (t+1) (q / 2 ^^^ dvL) (by omega) (by omega) (by omega) (by omega) (by rw [hX2,hnext,hs0]))
   unfold rzS
   have hxo:=xor_i64e (q / 2) dvL (by omega) (by unfold dvL; omega)
   refine cnd_t (by simp; omega) (bndL (s:=((q / 2 ^^^ dvL:Nat):Int)) (bnd (x:=((q % 2:Nat):Int)) (by rw [and1_i64 _ (by omega)]) (bnd hsr (bnd (ixO_of hj) (bnd (x:=(x:Int)) (by rw [getO_of hj,hx]) (bnd (x:=(t:Int)) (by rw [wu]) (bnd hsx (bnd (x:=(X:Int)) (by rw [wX]) (bnd (x:=((X % 2:Nat):Int)) (by rw [and1_i64 _ (by omega)]) (cnd_t ?_ (bnd (x:=((q / 2 ^^^ dvL:Nat):Int)) (by rw [hxo]) rfl)))))))))) (bnd (x:=((t+1:Nat):Int)) (by rw [w1]) rfl))
   simp only [bne_iff_ne,ne_eq]; omega
theorem ry_loop (b:List Int) (hb:byt b) (hl:b.length<100000000):∀ (k fuel i r:Nat),b.length-i=k→i≤b.length→k<fuel→r<4294967296 →
  loopF (ryS b (dvL:Int)) fuel ((r:Int),(i:Int))=some (.inl ((reg dvL (nats (b.drop i)) r:Nat):Int)):=by
 intro k
 induction k with
 | zero =>
  intro fuel i r hk hi hf hr
  obtain ⟨f,rfl⟩:∃ f,fuel=f+1:=⟨fuel-1,by omega⟩
  have:i=b.length:=by omega
  subst this
  refine loop_exit ?_
  unfold ryS
  refine cnd_f (by simp) ?_
  rw [List.drop_length,show nats []=[] from rfl,reg_nil]
 | succ k ih =>
  intro fuel i r hk hi hf hr
  obtain ⟨f,rfl⟩:∃ f,fuel=f+1:=⟨fuel-1,by omega⟩
  have hlt:i<b.length:=by omega
  have hbi:=hb b[i] (List.getElem_mem hlt)
  obtain ⟨x,hx⟩:∃ x:Nat,b[i]=(x:Int):=⟨b[i].toNat,by omega⟩
  have hx256:x<256:=by omega
  have w1:IntKind.i64.wrap ((i:Int)+1)=((i+1:Nat):Int):=by rw [wrap_i64 (by omega) (by omega)]; simp
  have hdr:b.drop i=b[i]::b.drop (i+1):=List.drop_eq_getElem_cons hlt
  have hin:=ry_bits b i hlt x r hx hx256 8 BIG 0 r rfl (by omega) (by unfold BIG; omega) hr (by rw [Nat.pow_zero,Nat.div_one]; rfl)
  have hlt2:sn dvL 8 (r ^^^ x)<4294967296:=sn_lt dvL _ 32 8 (by decide) (Nat.xor_lt_two_pow (by omega) (by omega))
  have hre:reg dvL (nats (b.drop i)) r=reg dvL (nats (b.drop (i+1))) (sn dvL 8 (r ^^^ x)):=by
   rw [hdr,show nats (b[i]::b.drop (i+1))=b[i].toNat::nats (b.drop (i+1)) from rfl,hx,Int.toNat_natCast,reg_cons _ _ _ _ hx256]
  rw [hre]
  refine (loop_next ?_).trans (ih f (i+1) (sn dvL 8 (r ^^^ x)) (by omega) (by omega) (by omega) hlt2)
  unfold ryS
  exact cnd_t (by simp; omega) (bndL hin (bnd (x:=((i+1:Nat):Int)) (by rw [w1]) rfl))
theorem rlong_eq {b:List Int} (hb:byt b) (hl:b.length<100000000):wherryref08_Long b=some ((sumL b:Nat):Int):=by
 have hk:=ry_loop b hb hl b.length BIG 0 4294967295 (by omega) (Nat.zero_le _) (by unfold BIG; omega) (by omega)
 rw [List.drop_zero] at hk
 have hlt:reg dvL (nats b) 4294967295<2 ^ 32:=reg_lt dvL 32 (by decide) (by decide) _ _ (by decide) (nats_bytes hb)
 have hxo:=xor_i64e (reg dvL (nats b) 4294967295) 4294967295 (by omega) (by omega)
 unfold wherryref08_Long
 refine bnd (x:=((sumL b:Nat):Int)) ?_ rfl
 unfold wherryref08_Carry
 refine bnd (x:=32) (by decide) (bnd (x:=4294967296) (by decide) (bnd (x:=4294967295) (by decide) (bndL hk (bnd (x:=32) (by decide) (bnd (x:=4294967296) (by decide) (bnd (x:=4294967295) (by decide) (bnd (x:=((sumL b:Nat):Int)) ?_ rfl)))))))
 exact congrArg some hxo
/-! Texts put together. -/
structure TX (s:ByteArray) (l:List Int) (n:Nat):Prop where
 e:sbytes s=l
 le:l.length≤n
theorem catT {s t:ByteArray} {l m:List Int} {n k:Nat} (hs:TX s l n) (ht:TX t m k) (h:n+k≤5000):∃ v,catO s t=some v∧TX v (l++m) (n+k):=by
 have h1:=hs.le
 have h2:=ht.le
 refine ⟨_,catL hs.e ht.e (by omega),⟨?_,by rw [List.length_append]; omega⟩⟩
 exact sbytes_bstr (byt_app (by rw [← hs.e]; exact byt_sbytes s) (by rw [← ht.e]; exact byt_sbytes t))
theorem digT {n:Nat} (h:n<10 ^ 18):∃ v,wherryref11_Digits (n:Int)=some v∧TX v (dgA 20 n []) 21:=by
 obtain ⟨a,b⟩:=dg_byt h
 exact ⟨_,rdig_eq 20 n (by omega) (by omega) (by omega),⟨sbytes_bstr a,b⟩⟩
theorem tW:TX (⟨#[66,85,78,68,76,69,32]⟩:ByteArray) (bunW++[32]) 7:=⟨rfl,by decide⟩
theorem t1:TX (⟨#[32]⟩:ByteArray) [32] 1:=⟨rfl,by decide⟩
theorem t20:TX (⟨#[32,48]⟩:ByteArray) [32,48] 2:=⟨rfl,by decide⟩
theorem t2:TX (⟨#[32,32]⟩:ByteArray) [32,32] 2:=⟨rfl,by decide⟩
theorem tE:TX (⟨#[13,10]⟩:ByteArray) [13,10] 2:=⟨rfl,by decide⟩
/-! Heads that are none. -/
set_option maxRecDepth 100000
theorem okb_one:∀ (l r:List Int) (p:Int),cln l→okb 10 r→okb p (l++13::10::r)
 | [],r,p,_,h=>⟨fun _=>rfl,fun e=>by omega,fun e=>by omega,fun _=>rfl,h⟩
 | x::l,r,p,hc,h=>⟨fun e=>absurd e (hc x (by simp)).1,fun e=>absurd e (hc x (by simp)).2,okb_one l r x (fun y hy=>hc y (by simp [hy])) h⟩
theorem okb_jn:∀ (ls:List (List Int)) (p:Int),(∀ l∈ls,cln l)→okb p (jn ls)
 | [],_,_=>trivial
 | l::ls,p,h=>okb_one l (jn ls) p (h l (by simp)) (okb_jn ls 10 fun m hm=>h m (by simp [hm]))
theorem last_jn:∀ (ls:List (List Int)),jn ls=[]∨(jn ls).getLast? = some 10
 | [] => .inl rfl
 | l::ls=>by
  right
  rcases last_jn ls with h | h
  ·simp [jn,h]
  ·have:(13::10::jn ls).getLast? = some 10:=by
    cases hj:jn ls with
    | nil=>rfl
    | cons y r=>rw [List.getLast?_cons_cons,List.getLast?_cons_cons,← hj]; exact h
   simp only [jn]
   rw [List.getLast?_append,this]; rfl
theorem okb_bad:∀ (b:List Int) (p:Int),okb p b→∀ i,i<b.length→(b[i]? = some 13→b[i+1]? = some 10)∧(b[i]? = some 10→(if i=0 then some p else b[i-1]?)=some 13)
 | x::l,p,h,0,_=>by
  obtain ⟨h1,h2,h3⟩:=h
  refine ⟨fun e => ?_,fun e => ?_⟩
  ·have:=h1 (by simpa using e)
   cases l with
   | nil=>simp at this
   | cons y l=>simpa using this
  ·have:=h2 (by simpa using e)
   simp [this]
 | x::l,p,h,i+1,hi=>by
  have:=okb_bad l x h.2.2 i (by simpa using hi)
  refine ⟨fun e=>by simpa using this.1 (by simpa using e),fun e => ?_⟩
  have h2:=this.2 (by simpa using e)
  rw [if_neg (by omega)]
  cases i with
  | zero=>simpa using h2
  | succ i=>simpa using h2
theorem bad_yes {b:List Int} (h:okb 0 b):∀ i,i<b.length→(!bad b i)=true:=by
 intro i hi
 obtain ⟨h1,h2⟩:=okb_bad b 0 h i hi
 simp only [bad,Bool.not_eq_true']
 split
 ·rename_i e
  rw [decide_eq_false_iff_not,Classical.not_not]; exact h1 e
 ·split
  ·rename_i e
   have:=h2 e
   rw [decide_eq_false_iff_not,not_or,Classical.not_not]
   by_cases h0:i=0
   ·rw [if_pos h0] at this; simp at this
   ·rw [if_neg h0] at this; exact ⟨h0,this⟩
  ·rfl
theorem body_jn0 (b:List Int) (ho:okb 0 b) (he:b=[]∨b.getLast? = some 10) (hl:b.length<4294967281):wherryref11_Body b=some true:=by
 have hloop:=loop_all (R:=Bool) (f:=fun (s31:Int)=>cond ((decide (s31<(b.length:Int))))
    (bindS (S:=Bool) (A:=((Int)⊕((Unit)⊕Bool)))
     ((ixO s31 b.length).bind fun v2 =>
     (getO b v2).bind fun v3 =>
     cond ((v3==13))
      ((some (IntKind.i64.wrap (s31+1))).bind fun v4 =>
      cond ((decide ((b.length:Int)≤v4)))
       (some (.inl true))
       ((some (IntKind.i64.wrap (s31+1))).bind fun v5 =>
       (ixO v5 b.length).bind fun v6 =>
       (getO b v6).bind fun v7 =>
       cond ((v7 != 10))
        (some (.inl true))
        ((ixO s31 b.length).bind fun v8 =>
        (getO b v8).bind fun v9 =>
        cond ((v9==10))
         (cond ((s31==0))
          (some (.inl true))
          ((some (IntKind.i64.wrap (s31-1))).bind fun v10 =>
          (ixO v10 b.length).bind fun v11 =>
          (getO b v11).bind fun v12 =>
          some (.inl (v12 != 13))))
         (some (.inl false)))))
      ((ixO s31 b.length).bind fun v13 =>
      (getO b v13).bind fun v14 =>
      cond ((v14==10))
       (cond ((s31==0))
        (some (.inl true))
        ((some (IntKind.i64.wrap (s31-1))).bind fun v15 =>
        (ixO v15 b.length).bind fun v16 =>
        (getO b v16).bind fun v17 =>
        some (.inl (v17 != 13))))
       (some (.inl false))))
     (fun (s45:Bool) =>
      cond (s45)
       (some (.inr (.inr (false))))
       ((some (IntKind.i64.wrap (s31+1))).bind fun v23 =>
       some (.inl v23))) some)
    (some (.inr (.inl ())))) (fun i => !bad b i) b.length false (fuel:=BIG) (by unfold BIG; omega)
  (fun i hi hp=>cnd_t (decide_eq_true (by omega)) (bndL (s:=bad b i) (body_step b hi (by omega)) (cnd_f (by simpa using hp) (bnd (some_wrap (by omega) (by omega)) rfl))))
  (fun i hi hp=>cnd_t (decide_eq_true (by omega)) (bndL (s:=bad b i) (body_step b hi (by omega)) (cnd_t (by simpa using hp) rfl)))
  (cnd_f (decide_eq_false (by omega)) rfl)
 rw [if_pos (bad_yes ho)] at hloop
 rcases he with rfl | he
 ·rfl
 have hpos:0<b.length:=by
  cases b with
  | nil=>simp at he
  | cons=>simp
 have hlast:b[b.length-1]'(by omega)=10:=by
  rw [List.getLast?_eq_getElem?,get_of (by omega)] at he
  exact Option.some.inj he
 unfold wherryref11_Body
 refine bndL (s:=()) hloop (bndL (s:=true) (cnd_f (by rw [beq_eq_false_iff_ne]; omega) (bnd (x:=((b.length-1:Nat):Int)) (by rw [wrap_j (by omega) (by omega)]; congr 1; omega) (bnd (ixO_of (by omega)) (bnd (getO_of (by omega)) (by rw [hlast]; rfl))))) rfl)
theorem body_jn {ls:List (List Int)} (hc:∀ l∈ls,cln l) (hl:tot ls<4294967281):wherryref11_Body (jn ls)=some true :=
 body_jn0 _ (okb_jn ls 0 hc) (last_jn ls) (by rw [jn_len]; exact hl)
theorem loop_inv {S O:Type} {f:S→Option (S⊕O)} (I:Nat→S→Prop) (Z:O→Prop):∀ (n k fuel:Nat) (s:S),k≤n→n-k<fuel→I k s→(∀ i s,i<n→I i s→(∃ s',f s=some (.inl s')∧I (i+1) s')∨∃ o,f s=some (.inr o)∧Z o)→(∀ s,I n s→∃ o,f s=some (.inr o)∧Z o)→∃ o,loopF f fuel s=some o∧Z o:=by
 intro n k fuel
 induction fuel generalizing k with
 | zero=>intro s hk hf; omega
 | succ fuel ih =>
  intro s hk hf hI hs he
  by_cases h:k=n
  ·subst h
   obtain ⟨o,ho,hz⟩:=he s hI
   exact ⟨o,loop_exit ho,hz⟩
  ·rcases hs k s (by omega) hI with ⟨s',h1,h2⟩ | ⟨o,ho,hz⟩
   ·rw [loop_next h1]
    exact ih (k+1) s' (by omega) (by omega) h2 hs he
   ·exact ⟨o,loop_exit ho,hz⟩
def blS:(((List T_Mail)×Int))→Option (((List T_Mail)×Int)⊕(((List T_Mail))⊕(((List T_Mail))⊕Bool))):=(fun ((s143,s144):(List T_Mail)×Int) =>
  cond ((decide (s144<3000)))
   ((wherryref11_BundleBytes (T_Bundle.mk 0 1 s143)).bind fun v5 =>
   cond ((v5.2 != 0))
    (some (.inr (.inr (.inr (false)))))
    ((some (IntKind.i64.wrap (4096-(v5.1.length:Int)))).bind fun v7 =>
    cond ((decide (v7<40)))
     (some (.inr (.inl s143)))
     ((some (IntKind.i64.wrap (v7-20))).bind fun v9 =>
     (some (if 400<v9 then 400 else v9)).bind fun v10 =>
     bindS (S:=((List Int))) (A:=(((List T_Mail)×Int)⊕(((List T_Mail))⊕(((List T_Mail))⊕Bool))))
      (loopF (S:=((List Int)×Int)) (O:=((List Int))⊕(((List T_Mail)×Int)⊕(((List T_Mail))⊕(((List T_Mail))⊕Bool)))) (fun ((s177,s178):(List Int)×Int) =>
       (some (IntKind.i64.wrap (v10-2))).bind fun v11 =>
       cond ((decide (s178<v11)))
        ((appO 1 s177 [120]).bind fun v13 =>
        (some (IntKind.i64.wrap (s178+1))).bind fun v14 =>
        some (.inl (v13,v14)))
        (some (.inr (.inl s177))))
       BIG ([],0))
      (fun (s180:(List Int)) =>
       (ixO 0 s143.length).bind fun v29 =>
       (getO s143 0).bind fun v30 =>
       (appO 1 v30.Body s180).bind fun v31 =>
       (appO 1 v31 [13,10]).bind fun v32 =>
       (ixO 0 s143.length).bind fun v33 =>
       (getO s143 0).bind fun v34 =>
       (some (IntKind.i64.wrap (s144+1))).bind fun v35 =>
       some (.inl (((s143.set 0 ((T_Mail.mk (T_Path.mk v34.From.Null v34.From.Local v34.From.Domain) v34.To v32 v34.Quiet v34.Helo v34.At))),v35)))) some)))
   (some (.inr (.inl s143))))
def blX (v10:Int):(((List Int)×Int))→Option (((List Int)×Int)⊕(((List Int))⊕(((List T_Mail)×Int)⊕(((List T_Mail))⊕(((List T_Mail))⊕Bool))))):=(fun ((s177,s178):(List Int)×Int) =>
       (some (IntKind.i64.wrap (v10-2))).bind fun v11 =>
       cond ((decide (s178<v11)))
        ((appO 1 s177 [120]).bind fun v13 =>
        (some (IntKind.i64.wrap (s178+1))).bind fun v14 =>
        some (.inl (v13,v14)))
        (some (.inr (.inl s177))))
def blM (v188:List Int×Int) (v3:Int):(((List Int)×Int))→Option (((List Int)×Int)⊕(((List Int))⊕Bool)):=(fun ((s201,s202):(List Int)×Int) =>
    (some (IntKind.i64.wrap (4096-(v188.1.length:Int)))).bind fun v193 =>
    (some (IntKind.i64.wrap (v193+v3))).bind fun v194 =>
    cond ((decide (s202<v194)))
     ((appO 1 s201 [120]).bind fun v196 =>
     (some (IntKind.i64.wrap (s202+1))).bind fun v197 =>
     some (.inl (v196,v197)))
     (some (.inr (.inl s201))))
theorem rbytes_two {b:T_Bundle} (hm:∀ m∈b.Mails,LM m∧byt m.Body) (hl:b.Mails.length≤20) (hc:wherryref11_Bundle b=some true) :
  wherryref11_BundleBytes b=some (if 4096<(wholeL b).length then ([],2) else (wholeL b,0))∧bundle_Bytes b=some (if 4096<(wholeL b).length then ([],2) else (wholeL b,0)):=by
 have hbb:bunB b=true:=by
  obtain ⟨c,hc1,hc2⟩:=rbun_any hm hl
  rw [hc] at hc1
  exact hc2 (Option.some.inj hc1).symm
 have hck:=chk_exact hm hl
 rw [hbb] at hck
 obtain ⟨e,he,h5,h0⟩:=chk_eq hm hl
 rw [show bundle_Check b=some 0 from hck] at he
 obtain ⟨ho,hn1,hn2,hl1,hl4,hv⟩:=h0 (Option.some.inj he).symm
 have hcb:=comL_byt hv
 have hlen:=cmds_len hv
 have hlen2:b.Mails.length * 1000000≤4 * 1000000:=Nat.mul_le_mul_right _ hl4
 have hcl:(comL b.Mails).length≤4000006:=by simp only [comL,quitL,List.length_append,List.length_cons,List.length_nil]; omega
 have hns:[b.Origin,b.Number,(b.Mails.length:Int),((cmds b.Mails++[81,85,73,84,13,10]).length:Int),((sumL (comL b.Mails):Nat):Int)]=(numsL b).map (fun n:Nat=>(n:Int)):=by
  show _=[((b.Origin.toNat:Nat):Int),((b.Number.toNat:Nat):Int),((b.Mails.length:Nat):Int),(((comL b.Mails).length:Nat):Int),((sumL (comL b.Mails):Nat):Int)]
  rw [show ((b.Origin.toNat:Nat):Int)=b.Origin by omega,show ((b.Number.toNat:Nat):Int)=b.Number by omega]
  rfl
 have hsl:=sumL_lt hcb
 have hn:∀ n∈numsL b,n<10 ^ 18:=by
  intro n hn
  simp only [numsL,List.mem_cons,List.not_mem_nil,or_false] at hn
  rcases hn with rfl | rfl | rfl | rfl | rfl <;> omega
 have hby:=bytes_eq hck hv hl (sumL_eq hcb (by show (comL b.Mails).length<_; omega)) hns hn
 have ew:(bunW++nmsL (numsL b))++[13,10]++(cmds b.Mails++[81,85,73,84,13,10])=wholeL b:=by simp [wholeL,comL,quitL]
 rw [ew] at hby
 obtain ⟨v4,d4,x4⟩:=digT (n:=b.Origin.toNat) (by omega)
 obtain ⟨v7,d7,x7⟩:=digT (n:=b.Number.toNat) (by omega)
 obtain ⟨v10,d10,x10⟩:=digT (n:=b.Mails.length) (by omega)
 obtain ⟨v13,d13,x13⟩:=digT (n:=(comL b.Mails).length) (by omega)
 obtain ⟨v17,d17,x17⟩:=digT (n:=sumL (comL b.Mails)) (by omega)
 rw [show ((b.Origin.toNat:Nat):Int)=b.Origin by omega] at d4
 rw [show ((b.Number.toNat:Nat):Int)=b.Number by omega] at d7
 obtain ⟨v5,c5,x5⟩:=catT tW x4 (by omega)
 obtain ⟨v6,c6,x6⟩:=catT x5 t1 (by omega)
 obtain ⟨v8,c8,x8⟩:=catT x6 x7 (by omega)
 obtain ⟨v9,c9,x9⟩:=catT x8 t1 (by omega)
 obtain ⟨v11,c11,x11⟩:=catT x9 x10 (by omega)
 obtain ⟨v12,c12,x12⟩:=catT x11 t1 (by omega)
 obtain ⟨v14,c14,x14⟩:=catT x12 x13 (by omega)
 obtain ⟨v15,c15,x15⟩:=catT x14 t1 (by omega)
 obtain ⟨v18,c18,x18⟩:=catT x15 x17 (by omega)
 obtain ⟨v19,c19,x19⟩:=catT x18 tE (by omega)
 have hap:appO 1 (sbytes v19) (comL b.Mails)=some (wholeL b):=by
  have h1:=x19.le
  rw [x19.e,app_of (by omega) (by omega)]
  simp [wholeL,numsL,nmsL]
 have key:∀ r,(cond (decide (4096<((wholeL b).length:Int))) (some ([],2)) (some (wholeL b,0)):Option (List Int×Int))=some r→wherryref11_BundleBytes b=some r:=fun r hr=>by
  unfold wherryref11_BundleBytes
  exact bnd hc (cnd_f rfl (bnd (rcom_eq hv hl) (bnd d4 (bnd c5 (bnd c6 (bnd d7 (bnd c8 (bnd c9 (bnd d10 (bnd c11 (bnd c12 (bnd d13 (bnd c14 (bnd c15 (bnd (rlong_eq hcb (by omega)) (bnd d17 (bnd c18 (bnd c19 (bnd rfl (bnd hap hr))))))))))))))))))))
 refine ⟨?_,hby⟩
 by_cases h:4096<(wholeL b).length
 ·rw [if_pos h]; exact key _ (cnd_t (decide_eq_true (by omega)) rfl)
 ·rw [if_neg h]; exact key _ (cnd_f (decide_eq_false (by omega)) rfl)
/-! Bundles of one mail,of lines of x. -/
def xm (B:List Int):T_Mail:=T_Mail.mk (T_Path.mk true (⟨#[]⟩:ByteArray) (⟨#[]⟩:ByteArray)) [T_Path.mk false (⟨#[97]⟩:ByteArray) (⟨#[98]⟩:ByteArray)] B false (⟨#[]⟩:ByteArray) 0
def xb (B:List Int):T_Bundle:=T_Bundle.mk 0 1 [xm B]
def xl (ls:List (List Int)):Prop:=∀ l∈ls,∀ x∈l,x=120
theorem xl_cln {ls:List (List Int)} (h:xl ls):∀ l∈ls,cln l:=fun l hl x hx=>by rw [h l hl x hx]; exact ⟨by decide,by decide⟩
theorem xl_byt {ls:List (List Int)} (h:xl ls):∀ l∈ls,byt l:=fun l hl x hx=>by rw [h l hl x hx]; exact ⟨by decide,by decide⟩
theorem xl_stf {ls:List (List Int)} (h:xl ls):ls.map stf=ls:=by
 have:ls.map stf=ls.map id:=List.map_congr_left fun l hl=>by
  unfold stf
  rw [if_neg]; rfl
  intro e
  cases l with
  | nil=>simp at e
  | cons x l =>
   have h1:=h _ hl x (by simp)
   subst h1
   simp at e
 rw [this,List.map_id]
theorem xm_lm {ls:List (List Int)} (hl:tot ls≤5000):LM (xm (jn ls)):=by
 refine ⟨by show 1≤40; decide,?_⟩
 show (jn ls).length+0+0+0+(1+1+0)≤20000
 rw [jn_len]; omega
theorem xb_hm {ls:List (List Int)} (h:xl ls) (hl:tot ls≤5000):∀ m∈(xb (jn ls)).Mails,LM m∧byt m.Body:=fun m hm=>by
 rw [List.mem_singleton.1 hm]
 exact ⟨xm_lm hl,jn_byt (xl_byt h)⟩
theorem xm_ok {ls:List (List Int)} (h:xl ls) (hl:tot ls≤4096):wherryref11_Mail (xm (jn ls))=some true:=by
 have hb:wherryref11_Body (jn ls)=some true:=body_jn (xl_cln h) (by omega)
 have hj:=jn_len ls
 unfold wherryref11_Mail
 have hp1:wherryref11_Path (T_Path.mk true (⟨#[]⟩:ByteArray) (⟨#[]⟩:ByteArray))=some true:=by kernel_rfl
 have hp2:wherryref11_Path (T_Path.mk false (⟨#[97]⟩:ByteArray) (⟨#[98]⟩:ByteArray))=some true:=by kernel_rfl
 refine bndL (s:=false) (bnd hp1 (cnd_f rfl (bnd (rin_eq _ _ _) (cnd_f rfl (bnd hb (cnd_f rfl (inl_of (decide_eq_false (by show ¬ 4096<((jn ls).length:Int); omega))))))))) (cnd_f rfl ?_)
 refine bndL (s:=()) ((loop_next (n:=BIG-1) (s':=(1:Int)) ?_).trans (loop_exit (n:=BIG-2) ?_)) rfl
 ·exact cnd_t rfl (bndL (s:=false) (bnd rfl (bnd rfl (bnd hp2 (cnd_f rfl (bnd rfl (bnd rfl rfl)))))) (cnd_f rfl (bnd rfl rfl)))
 ·exact cnd_f rfl rfl
theorem xb_ok {ls:List (List Int)} (h:xl ls) (hl:tot ls≤4096):wherryref11_Bundle (xb (jn ls))=some true:=by
 have hm:=xm_ok h hl
 unfold wherryref11_Bundle
 refine bndL (s:=false) (bnd (rin_eq _ _ _) (cnd_f rfl (bnd (rin_eq _ _ _) (cnd_f rfl (bnd (rin_eq _ _ _) rfl))))) (cnd_f rfl ?_)
 refine bndL (s:=()) ((loop_next (n:=BIG-1) (s':=(1:Int)) ?_).trans (loop_exit (n:=BIG-2) ?_)) rfl
 ·exact cnd_t rfl (bnd rfl (bnd rfl (bndL (s:=false) (bnd hm (cnd_f rfl (cnd_f rfl (cnd_f (by simp [xm]) rfl)))) (cnd_f rfl (bnd rfl rfl)))))
 ·exact cnd_f rfl rfl
theorem xb_two {ls:List (List Int)} (h:xl ls) (hl:tot ls≤4096) :
  wherryref11_BundleBytes (xb (jn ls))=some (if 4096<(wholeL (xb (jn ls))).length then ([],2) else (wholeL (xb (jn ls)),0))∧bundle_Bytes (xb (jn ls))=some (if 4096<(wholeL (xb (jn ls))).length then ([],2) else (wholeL (xb (jn ls)),0)) :=
 rbytes_two (xb_hm h (by omega)) (by show 1≤20; decide) (xb_ok h hl)
theorem com_len {ls:List (List Int)} (h:xl ls) (hl:tot ls≤5000):(comL (xb (jn ls)).Mails).length=tot ls+44:=by
 have hs:=stuff_ok (xl_cln h) (xl_byt h) (by omega:tot ls<1000000000)
 rw [xl_stf h] at hs
 have e:stfB (jn ls)=jn (ls++[[46]]):=by unfold stfB; rw [hs]; rfl
 show (cmd (xm (jn ls))++cmds []++quitL).length=_
 unfold cmd
 rw [show (xm (jn ls)).Body=jn ls from rfl,e]
 have e1:(lnL mailW (xm (jn ls)).From).length=14:=rfl
 have e2:(rcs (xm (jn ls)).To).length=15:=by kernel_rfl
 simp only [List.length_append,e1,e2,jn_len,jn_app,jn,List.length_cons,List.length_nil,cmds,quitL]
 omega
theorem dg_len:∀ (k f n:Nat) (acc:List Int),k≤f→n<10 ^ (k+1)→(dgA f n acc).length≤acc.length+(k+1)
 | 0,0,n,acc,_,hn=>by simp [dgA]
 | 0,f+1,n,acc,_,hn=>by
  unfold dgA
  rw [if_pos (by simp at hn; omega)]; simp
 | k+1,0,n,acc,hk,_=>by omega
 | k+1,f+1,n,acc,hk,hn=>by
  unfold dgA
  by_cases h9:n≤9
  ·rw [if_pos h9]; simp
  ·rw [if_neg h9]
   have:=dg_len k f (n / 10) ((48+((n % 10:Nat):Int))::acc) (by omega) (by rw [Nat.div_lt_iff_lt_mul (by omega)]; rw [Nat.pow_succ] at hn; exact hn)
   simp only [List.length_cons] at this
   omega
theorem dg_pos (n:Nat) (h:n<10 ^ 18):1≤(dgA 20 n []).length:=by
 obtain ⟨t,h1,_,h3,_⟩:=dgA_ok 20 n [] (by omega)
 rw [h1,List.append_nil]; exact h3
theorem whole_len {ls:List (List Int)} (h:xl ls) (hl:tot ls≤5000):tot ls+62≤(wholeL (xb (jn ls))).length∧(wholeL (xb (jn ls))).length≤tot ls+74:=by
 have hc:=com_len h hl
 have hcb:byt (comL (xb (jn ls)).Mails):=by
  have hv:∀ m∈(xb (jn ls)).Mails,Vm m:=fun m hm=>by
   rw [List.mem_singleton.1 hm]
   exact ⟨xm_lm hl,by kernel_rfl,fun p hp=>by rw [List.mem_singleton.1 hp]; kernel_rfl,ls,xl_cln h,xl_byt h,rfl⟩
  exact comL_byt hv
 have hs:=sumL_lt hcb
 have e:(wholeL (xb (jn ls))).length=6+((1+1)+((1+1)+((1+1)+((1+(dgA 20 (comL (xb (jn ls)).Mails).length []).length)+((1+(dgA 20 (sumL (comL (xb (jn ls)).Mails)) []).length)+0)))))+(2+(comL (xb (jn ls)).Mails).length):=by
  unfold wholeL numsL
  simp only [nmsL,List.length_append,List.length_cons,List.length_nil]
  rw [show (dgA 20 (xb (jn ls)).Origin.toNat []).length=1 from rfl,show (dgA 20 (xb (jn ls)).Number.toNat []).length=1 from rfl,show (dgA 20 (xb (jn ls)).Mails.length []).length=1 from rfl,show bunW.length=6 from rfl]
  omega
 have d1:=dg_len 3 20 (comL (xb (jn ls)).Mails).length [] (by omega) (by rw [hc]; omega)
 have d2:=dg_len 9 20 (sumL (comL (xb (jn ls)).Mails)) [] (by omega) (by omega)
 have d3:=dg_pos (comL (xb (jn ls)).Mails).length (by omega)
 have d4:=dg_pos (sumL (comL (xb (jn ls)).Mails)) (by omega)
 simp only [List.length_nil,Nat.zero_add] at d1 d2
 rw [e]
 omega
theorem rep_x (n:Nat):∀ x∈List.replicate n (120:Int),x=120:=fun x hx=>(List.mem_replicate.1 hx).2
theorem rep_snoc (n:Nat):List.replicate n (120:Int)++[120]=List.replicate (n+1) 120:=List.replicate_append_replicate (n:=n) (m:=1)
theorem rep_app (k:Nat) (h:k≤100000):appO 1 (List.replicate k (120:Int)) [120]=some (List.replicate (k+1) 120):=by
 rw [← rep_snoc]; exact app_of (by simp; omega) (by simp; omega)
theorem blX_run (n:Nat) (hn:n≤1000):loopF (blX ((n+2:Nat):Int)) BIG ([],0)=some (.inl (List.replicate n 120)):=by
 have hw:IntKind.i64.wrap (((n+2:Nat):Int)-2)=(n:Int):=by rw [wrap_i64 (by omega) (by omega)]; omega
 refine loop_from (fun k=>(List.replicate k 120,(k:Int))) n BIG rfl (by simp only [BIG]; omega) (fun k hk => ?_) ?_
 ·simp only [blX,Option.bind_some,hw]
  exact cnd_t (decide_eq_true (by omega)) (bnd (rep_app k (by omega)) (by rw [wrap_succ (n:=k) (by omega)]))
 ·simp only [blX,Option.bind_some,hw]
  exact cnd_f (decide_eq_false (by omega)) rfl
theorem blM_run (y:List Int) (e v3:Int) (m:Nat) (hm:m≤5000) (hy:y.length≤4096) (h:(4096:Int)-(y.length:Int)+v3=(m:Int)) (h0:0≤v3) (h1:v3≤1):loopF (blM (y,e) v3) BIG ([],0)=some (.inl (List.replicate m 120)):=by
 have hw:IntKind.i64.wrap (4096-(y.length:Int))=4096-(y.length:Int):=wrap_i64 (by omega) (by omega)
 have hw2:IntKind.i64.wrap (4096-(y.length:Int)+v3)=(m:Int):=by rw [wrap_i64 (by omega) (by omega)]; exact h
 refine loop_from (fun k=>(List.replicate k 120,(k:Int))) m BIG rfl (by simp only [BIG]; omega) (fun k hk => ?_) ?_
 ·simp only [blM,Option.bind_some,hw,hw2]
  exact cnd_t (decide_eq_true (by omega)) (bnd (rep_app k (by omega)) (by rw [wrap_succ (n:=k) (by omega)]))
 ·simp only [blM,Option.bind_some,hw,hw2]
  exact cnd_f (decide_eq_false (by omega)) rfl
theorem tot_app2 (a b:List (List Int)):tot (a++b)=tot a+tot b:=by
 induction a with
 | nil=>simp [tot]
 | cons x a ih=>simp only [List.cons_append,tot,ih]; omega
theorem blS_run:∃ ls,xl ls∧ls≠[]∧tot ls≤4096∧(wholeL (xb (jn ls))).length≤4096∧loopF blS BIG ([xm []],0)=some (.inl [xm (jn ls)]):=by
 obtain ⟨N,hN⟩:∃ N:Nat,N=3000:=⟨_,rfl⟩
 have hrun:=loop_inv (f:=blS) (fun k s=>∃ ls,xl ls∧ls.length=k∧(wholeL (xb (jn ls))).length≤4096∧tot ls≤4096∧s=([xm (jn ls)],(k:Int))) (fun o=>∃ ls,xl ls∧ls≠[]∧tot ls≤4096∧(wholeL (xb (jn ls))).length≤4096∧o = .inl [xm (jn ls)]) N 0 BIG ([xm []],0) (by omega) (by simp only [BIG]; omega)
  ⟨[],fun l hl=>by simp at hl,rfl,by have:=(whole_len (ls:=[]) (fun l hl=>by simp at hl) (by simp [tot])).2; simp only [tot] at this; omega,by simp [tot],rfl⟩
  (fun i s hi hI=>by
   obtain ⟨ls,hx,hk,hw,ht,rfl⟩:=hI
   obtain ⟨w1,w2⟩:=whole_len hx (by omega)
   have hb:=(xb_two hx ht).1
   rw [if_neg (by omega)] at hb
   have e1:IntKind.i64.wrap (4096-((wholeL (xb (jn ls))).length:Int))=4096-((wholeL (xb (jn ls))).length:Int):=wrap_i64 (by omega) (by omega)
   by_cases h40:4096-((wholeL (xb (jn ls))).length:Int)<40
   ·refine .inr ⟨_,cnd_t (decide_eq_true (by omega)) (bnd hb (cnd_f rfl (bnd (congrArg some e1) (cnd_t (decide_eq_true h40) rfl)))),ls,hx,?_,ht,hw,rfl⟩
    rintro rfl
    simp only [tot] at w2
    omega
   ·obtain ⟨n,hn⟩:∃ n:Nat,(if (400:Int)<4096-((wholeL (xb (jn ls))).length:Int)-20 then 400 else 4096-((wholeL (xb (jn ls))).length:Int)-20)=((n+2:Nat):Int)∧n≤398∧(n:Int)+2≤4096-((wholeL (xb (jn ls))).length:Int)-20:=by
     by_cases h:(400:Int)<4096-((wholeL (xb (jn ls))).length:Int)-20
     ·exact ⟨398,by rw [if_pos h]; rfl,by omega,by omega⟩
     ·exact ⟨4096-(wholeL (xb (jn ls))).length-22,by rw [if_neg h]; omega,by omega,by omega⟩
    obtain ⟨hn1,hn2,hn3⟩:=hn
    have e2:IntKind.i64.wrap (4096-((wholeL (xb (jn ls))).length:Int)-20)=4096-((wholeL (xb (jn ls))).length:Int)-20:=wrap_i64 (by omega) (by omega)
    have hx2:xl (ls++[List.replicate n 120]):=fun l hl x hxx=>by
     rcases List.mem_append.1 hl with h | h
     ·exact hx l h x hxx
     ·rw [List.mem_singleton.1 h] at hxx; exact rep_x n x hxx
    have ht2:tot (ls++[List.replicate n 120])=tot ls+(n+2):=by rw [tot_app2]; simp [tot]
    obtain ⟨u1,u2⟩:=whole_len hx2 (by rw [ht2]; omega)
    have hj:(jn ls).length=tot ls:=jn_len ls
    refine .inl ⟨([xm (jn (ls++[List.replicate n 120]))],((i+1:Nat):Int)),?_,ls++[List.replicate n 120],hx2,by simp [hk],by omega,by omega,rfl⟩
    refine cnd_t (decide_eq_true (by omega)) (bnd hb (cnd_f rfl (bnd (congrArg some e1) (cnd_f (decide_eq_false h40) (bnd (congrArg some e2) (bnd (congrArg some hn1) (bndL (blX_run n (by omega)) ?_)))))))
    refine bnd rfl (bnd rfl (bnd (x:=jn ls++List.replicate n 120) (app_of (by show ((jn ls).length+_) * 1≤_; simp; omega) (by show (jn ls).length+_≤_; simp; omega)) (bnd (x:=jn ls++List.replicate n 120++[13,10]) (app_of (by simp; omega) (by simp; omega)) (bnd rfl (bnd rfl (bnd (congrArg some (wrap_succ (n:=i) (by omega))) ?_))))))
    rw [jn_app]
    simp [jn,xm])
  (fun s hI=>by
   obtain ⟨ls,hx,hk,hw,ht,rfl⟩:=hI
   exact ⟨_,cnd_f (decide_eq_false (by omega)) rfl,ls,hx,by rintro rfl; simp at hk; omega,ht,hw,rfl⟩)
 obtain ⟨o,ho,ls,h1,h2,h3,h4,rfl⟩:=hrun
 exact ⟨ls,h1,h2,h3,h4,ho⟩
theorem two_cases (k:Int):∃ n:Nat,n<2∧remO (IntKind.u64.wrap k) 2=some ((n:Nat):Int):=by
 have h0:0≤IntKind.u64.wrap k:=by
  simp only [IntKind.wrap,IntKind.bits,IntKind.signed,Bool.false_and,Bool.false_eq_true,if_false]
  exact Int.emod_nonneg _ (by decide)
 refine ⟨(IntKind.u64.wrap k).toNat % 2,Nat.mod_lt _ (by omega),?_⟩
 obtain ⟨m,hm⟩:∃ m:Nat,IntKind.u64.wrap k=(m:Int):=⟨_,(Int.toNat_of_nonneg h0).symm⟩
 rw [hm,Int.toNat_natCast]
 exact rem_nat m 2 (by omega)
theorem bundleLong_true (over:Int):wherrylaw17_BundleLong over=some true:=by
 obtain ⟨q,hq2,hq⟩:=two_cases over
 obtain ⟨ls,hx,hne,ht,hw,hrun⟩:=blS_run
 obtain ⟨l,ls,rfl⟩:∃ l r,ls=l::r:=List.exists_cons_of_ne_nil hne
 have hwq:IntKind.i64.wrap ((q:Nat):Int)=((q:Nat):Int):=wrap_nat q (by omega)
 unfold wherrylaw17_BundleLong
 refine bnd rfl (bnd hq (bnd (congrArg some hwq) (bndL (s:=[xm (jn (l::ls))]) (bndL hrun rfl) ?_)))
 obtain ⟨w1,w2⟩:=whole_len hx (by omega)
 have hb:=(xb_two hx ht).1
 rw [if_neg (by omega)] at hb
 have hj:(jn (l::ls)).length=tot (l::ls):=jn_len _
 have htw:wherrykeep_Twin (jn (l::ls))=some (jn (l::ls)):=by
  unfold wherrykeep_Twin
  exact bnd (app_of (by simp; omega) (by simp; omega)) rfl
 obtain ⟨m,hm⟩:∃ m:Nat,(4096:Int)-((wholeL (xb (jn (l::ls)))).length:Int)+((q:Nat):Int)=(m:Int):=⟨4096-(wholeL (xb (jn (l::ls)))).length+q,by omega⟩
 have hx2:xl ((List.replicate m 120++l)::ls):=fun k hk x hxx=>by
  rcases List.mem_cons.1 hk with h | h
  ·rw [h] at hxx
   rcases List.mem_append.1 hxx with h2 | h2
   ·exact rep_x m x h2
   ·exact hx l (by simp) x h2
  ·exact hx k (List.mem_cons_of_mem _ h) x hxx
 have ht2:tot ((List.replicate m 120++l)::ls)=m+tot (l::ls):=by simp [tot]; omega
 have hap:appO 1 (List.replicate m 120) (jn (l::ls))=some (jn ((List.replicate m 120++l)::ls)):=by
  rw [app_of (by simp; omega) (by simp; omega)]
  simp [jn]
 obtain ⟨y1,y2⟩:=xb_two hx2 (by omega)
 refine bnd hb (cnd_f rfl ?_)
 refine bnd (x:=0) rfl (bnd (x:=xm (jn (l::ls))) rfl ?_)
 refine bnd (x:=jn (l::ls)) htw ?_
 refine bndL (blM_run (wholeL (xb (jn (l::ls)))) 0 ((q:Nat):Int) m (by omega) hw hm (by omega) (by omega)) ?_
 refine bnd (x:=jn ((List.replicate m 120++l)::ls)) hap ?_
 refine bnd (x:=0) rfl (bnd (x:=xm (jn (l::ls))) rfl ?_)
 refine bnd y2 (bnd y1 ?_)
 by_cases h:4096<(wholeL (xb (jn ((List.replicate m 120++l)::ls)))).length
 ·rw [if_pos h]
  exact bndL (s:=true) (cnd_t rfl (bnd (keepBytes_eq [] [] (by simp)) (cnd_t rfl (cnd_t rfl (bnd wakes17 rfl))))) rfl
 ·rw [if_neg h]
  exact bndL (s:=true) (cnd_t rfl (bnd (keepBytes_eq _ _ (by simp only; omega)) (cnd_t (by simp) (cnd_t (decide_eq_true (by simp only; omega)) (bnd wakes17 rfl))))) rfl
end Go.Abs.Sh
