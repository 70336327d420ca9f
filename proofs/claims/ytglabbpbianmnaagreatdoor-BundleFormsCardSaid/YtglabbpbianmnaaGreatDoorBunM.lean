import Derived.Test.YtglabbpbianmnaaGreatDoorBunL
import Derived.KernelRfl
namespace Go.Abs.Sh
set_option linter.unusedVariables false
set_option linter.unusedSimpArgs false
set_option maxRecDepth 100000
theorem wakes17:wherrylaw17_wakes=some true:=by kernel_rfl
theorem keepZ17:wherrykeep_Bundle (T_Bundle.mk 0 0 []) (T_Bundle.mk 0 0 [])=some true:=by kernel_rfl
theorem cutR (b s:List Int):bytes_Cut_ro b s=bytes_Cut_sh b s:=rfl
theorem wz_mail {m:T_Mail} (h:T_Mail.wz m):mRe m∧byt m.Body:=by
 obtain ⟨⟨_,h1,h2⟩,⟨h3,h4⟩,⟨h5,hb⟩,_,h6,_⟩:=h
 simp only [wzS,reachBytes] at h1 h2 h6
 simp only [reachBytes] at h3 h5
 refine ⟨⟨by omega,by omega,by omega,by omega,by omega,fun p hp => ?_⟩,byt_of_wf ⟨by unfold maxLen; omega,hb⟩⟩
 have:=h4 p hp
 simp only [T_Path.wz,wzS,reachBytes] at this
 omega
theorem cut_line {line c:List Int} (hb:byt line) (hc:byt c) (h13:∀ x∈line,x≠13) (hl:line.length+c.length≤100000):bytes_Cut_ro (line++13::10::c) [13,10]=some (line,c,true):=by
 rw [cutR]
 have hby:byt (line++13::10::c):=byt_app hb (byt_cons (by omega) (byt_cons (by omega) hc))
 have hlen:(line++13::10::c).length=line.length+(c.length+2):=by simp
 rw [cut_some hby (by omega) (idx2_line h13)]
 congr 1
 refine Prod.ext (by simp) (Prod.ext ?_ rfl)
 show (line++13::10::c).drop (line.length+2)=c
 rw [List.drop_append]
 simp
theorem dg13 {l:List Nat} (h:∀ n∈l,n<10 ^ 18):∀ x∈nmsL l,x≠13:=by
 induction l with
 | nil=>intro x hx; cases hx
 | cons n l ih =>
  intro x hx
  simp only [nmsL,List.mem_cons,List.mem_append] at hx
  rcases hx with rfl | hx | hx
  ·decide
  ·have:=dgA_dig (h n List.mem_cons_self) x hx
   unfold dig1 at this; omega
  ·exact ih (fun m hm=>h m (List.mem_cons_of_mem _ hm)) x hx
theorem line13 {l:List Nat} (h:∀ n∈l,n<10 ^ 18):∀ x∈bunW++nmsL l,x≠13:=by
 intro x hx
 rcases List.mem_append.1 hx with hx | hx
 ·simp only [bunW,List.mem_cons,List.not_mem_nil,or_false] at hx; omega
 ·exact dg13 h x hx
theorem bunW_byt:byt bunW:=by intro x hx; simp only [bunW,List.mem_cons,List.not_mem_nil,or_false] at hx; omega
theorem crc32_lt (l:List Nat) (h:∀ x∈l,x<256):crc 3988292384 32 l<4294967296:=by
 have hz:2 ^ 32-1<2 ^ 32:=by decide
 exact Nat.xor_lt_two_pow (n:=32) (reg_lt 3988292384 32 (by decide) (by omega) l _ hz h) hz
theorem rcs_byt:∀ (l:List T_Path),byt (rcs l)
 | []=>byt_nil
 | p::l=>byt_app (byt_app (by intro x hx; simp only [rcptW,List.mem_cons,List.not_mem_nil,or_false] at hx; omega) (byt_app (byt_txt p) (by intro x hx; simp only [List.mem_cons,List.not_mem_nil,or_false] at hx; omega))) (rcs_byt l)
theorem cmd_byt {m:T_Mail} (h:Vm m):byt (cmd m):=by
 obtain ⟨ls,h1,h2,h3⟩:=h.bd
 have hl:=(lm_small h.lm).2.2.1
 have ht:tot ls≤20000:=by rw [← jn_len,← h3]; exact hl
 have hs:=stuff_ok h1 h2 (by omega:tot ls<1000000000)
 rw [← h3] at hs
 have e:stfB m.Body=jn (ls.map stf++[[46]]):=by unfold stfB; rw [hs]; rfl
 have hst:byt (stfB m.Body):=by
  rw [e]
  refine jn_byt fun l hl => ?_
  rcases List.mem_append.1 hl with hl | hl
  ·obtain ⟨k,hk,rfl⟩:=List.mem_map.1 hl
   exact stf_byt (h2 k hk)
  ·rw [List.mem_singleton.1 hl]; intro x hx; simp only [List.mem_cons,List.not_mem_nil,or_false] at hx; omega
 refine byt_app (byt_app (by intro x hx; simp only [mailW,List.mem_cons,List.not_mem_nil,or_false] at hx; omega) (byt_app (byt_txt _) (by intro x hx; simp only [List.mem_cons,List.not_mem_nil,or_false] at hx; omega))) (byt_app (rcs_byt _) (byt_app (by intro x hx; simp only [List.mem_cons,List.not_mem_nil,or_false] at hx; omega) hst))
theorem cmds_byt:∀ {l:List T_Mail},(∀ m∈l,Vm m)→byt (cmds l)
 | [],_=>byt_nil
 | m::l,h=>byt_app (cmd_byt (h m List.mem_cons_self)) (cmds_byt fun x hx=>h x (List.mem_cons_of_mem _ hx))
def quitL:List Int:=[81,85,73,84,13,10]
def comL (l:List T_Mail):List Int:=cmds l++quitL
def sumL (l:List Int):Nat:=crc 3988292384 32 (nats l)
theorem comL_byt {l:List T_Mail} (h:∀ m∈l,Vm m):byt (comL l):=byt_app (cmds_byt h) (by intro x hx; simp only [quitL,List.mem_cons,List.not_mem_nil,or_false] at hx; omega)
theorem sumL_eq {l:List Int} (hb:byt l) (hl:l.length<4294967296):sums_Long l=some ((sumL l:Nat):Int):=long_eq l hb hl
theorem sumL_lt {l:List Int} (hb:byt l):sumL l<4294967296:=crc32_lt _ (nats_bytes hb)
def numsL (b:T_Bundle):List Nat:=[b.Origin.toNat,b.Number.toNat,b.Mails.length,(comL b.Mails).length,sumL (comL b.Mails)]
def wholeL (b:T_Bundle):List Int:=(bunW++nmsL (numsL b))++13::10::comL b.Mails
theorem whole_facts {b:T_Bundle} (ho:b.Origin=0∨b.Origin=1) (hn1:1≤b.Number) (hn2:b.Number≤65535) (hl4:b.Mails.length≤4) (hv:∀ m∈b.Mails,Vm m) (hw:(wholeL b).length≤4096) :
  byt (bunW++nmsL (numsL b))∧byt (comL b.Mails)∧(∀ x∈bunW++nmsL (numsL b),x≠13)∧(bunW++nmsL (numsL b)).length≤4096∧(comL b.Mails).length≤4096∧6≤(comL b.Mails).length ∧
  hdrOf (bunW++nmsL (numsL b))=(⟨b.Origin,b.Number,((comL b.Mails).length:Int),((sumL (comL b.Mails):Nat):Int)⟩,true):=by
 have hcb:=comL_byt hv
 have hsl:=sumL_lt hcb
 have hlen:(wholeL b).length=(bunW++nmsL (numsL b)).length+((comL b.Mails).length+2):=by simp [wholeL]; omega
 have h6:6≤(comL b.Mails).length:=by simp [comL,quitL]
 have hn:∀ n∈numsL b,n<10 ^ 18:=by
  intro n hn
  simp only [numsL,List.mem_cons,List.not_mem_nil,or_false] at hn
  rcases hn with rfl | rfl | rfl | rfl | rfl <;> omega
 refine ⟨byt_app bunW_byt (nms_byt hn).1,hcb,line13 hn,by omega,by omega,h6,?_⟩
 have:=hdr_known (o:=b.Origin.toNat) (n:=b.Number.toNat) (k:=b.Mails.length) (s:=(comL b.Mails).length) (v:=sumL (comL b.Mails)) (by omega) (by omega) (by omega) (by omega) (by omega)
 rw [show ((b.Origin.toNat:Nat):Int)=b.Origin by omega,show ((b.Number.toNat:Nat):Int)=b.Number by omega] at this
 rw [show numsL b=[b.Origin.toNat,b.Number.toNat,b.Mails.length,(comL b.Mails).length,sumL (comL b.Mails)] from rfl,this,decide_eq_true (by omega)]
end Go.Abs.Sh
