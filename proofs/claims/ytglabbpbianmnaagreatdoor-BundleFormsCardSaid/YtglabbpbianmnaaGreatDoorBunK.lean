import Derived.Test.YtglabbpbianmnaaGreatDoorBunJ
namespace Go.Abs.Sh
set_option linter.unusedVariables false
set_option linter.unusedSimpArgs false
set_option maxRecDepth 100000
def zH:T_bundle_header:=T_bundle_header.mk 0 0 0 0
theorem ph_no {v9:List ByteArray} {i:Nat} {w arr:List Int} (hi:i<5) (hl:v9.length=5) (hg:getO v9 i=some (bstr w)) (hb:byt w) (hn:numT w=false):phS v9 (arr,(i:Int))=some (.inr (.inr (zH,false))):=by
 obtain ⟨m,hm,_⟩:=numT_eq (bstr w)
 rw [sbytes_bstr hb,hn] at hm
 exact cnd_t (decide_eq_true (by omega)) (bnd (ixO_of (by omega)) (bnd hg (bnd hm (cnd_t rfl rfl))))
theorem ph_yes {v9:List ByteArray} {i:Nat} {w arr arr':List Int} (hi:i<5) (hl:v9.length=5) (hg:getO v9 i=some (bstr w)) (hb:byt w) (hn:numT w=true) (hs:setO arr i ((valF 0 w:Nat):Int)=some arr'):phS v9 (arr,(i:Int))=some (.inl (arr',((i+1:Nat):Int))):=by
 obtain ⟨m,hm,hv⟩:=numT_eq (bstr w)
 rw [sbytes_bstr hb] at hm hv
 rw [hv hn,hn] at hm
 exact cnd_t (decide_eq_true (by omega)) (bnd (ixO_of (by omega)) (bnd hg (bnd hm (cnd_f rfl (bnd (ixO_of hi) (bnd hs (bnd (congrArg some (wrap_succ (n:=i) (by omega))) rfl)))))))
theorem ph_end {v9:List ByteArray} {arr:List Int} (hl:v9.length=5):phS v9 (arr,((4+1:Nat):Int))=some (.inr (.inl arr)):=cnd_f (decide_eq_false (by omega)) rfl
def vI (w:List Int):Int:=((valF 0 w:Nat):Int)
theorem ph_loop (a b c d e:List Int) (ha:byt a) (hb:byt b) (hc:byt c) (hd:byt d) (he:byt e) :
  loopF (phS [bstr a,bstr b,bstr c,bstr d,bstr e]) BIG (List.replicate 5 (0:Int),0)=some (if (numT a&&(numT b&&(numT c&&(numT d&&numT e))))=true then .inl [vI a,vI b,vI c,vI d,vI e] else .inr (zH,false)):=by
 cases na:numT a
 ·exact loop_exit (ph_no (i:=0) (by omega) rfl rfl ha na)
 refine (loop_next (ph_yes (i:=0) (arr':=[vI a,0,0,0,0]) (by omega) rfl rfl ha na rfl)).trans ?_
 cases nb:numT b
 ·exact loop_exit (ph_no (i:=1) (by omega) rfl rfl hb nb)
 refine (loop_next (ph_yes (i:=1) (arr':=[vI a,vI b,0,0,0]) (by omega) rfl rfl hb nb rfl)).trans ?_
 cases nc:numT c
 ·exact loop_exit (ph_no (i:=2) (by omega) rfl rfl hc nc)
 refine (loop_next (ph_yes (i:=2) (arr':=[vI a,vI b,vI c,0,0]) (by omega) rfl rfl hc nc rfl)).trans ?_
 cases nd:numT d
 ·exact loop_exit (ph_no (i:=3) (by omega) rfl rfl hd nd)
 refine (loop_next (ph_yes (i:=3) (arr':=[vI a,vI b,vI c,vI d,0]) (by omega) rfl rfl hd nd rfl)).trans ?_
 cases ne:numT e
 ·exact loop_exit (ph_no (i:=4) (by omega) rfl rfl he ne)
 refine (loop_next (ph_yes (i:=4) (arr':=[vI a,vI b,vI c,vI d,vI e]) (by omega) rfl rfl he ne rfl)).trans ?_
 exact loop_exit (ph_end rfl)
def hdrW:List (List Int)→T_bundle_header×Bool
 | [w,a,b,c,d,e]=>if w=bunW then (if (numT a&&(numT b&&(numT c&&(numT d&&numT e))))=true then (⟨vI a,vI b,vI d,vI e⟩,decide (vI a≤1)) else (zH,false)) else (zH,false)
 | _=>(zH,false)
def hdrOf (l:List Int):T_bundle_header×Bool:=hdrW (spl 32 l)
theorem six {A:Type} {l:List A} (h:l.length=6):∃ w a b c d e,l=[w,a,b,c,d,e]:=by
 match l,h with
 | [w,a,b,c,d,e],_=>exact ⟨w,a,b,c,d,e,rfl⟩
theorem hdrW_no {ws:List (List Int)} (h:ws.length≠6):hdrW ws=(zH,false):=by
 unfold hdrW
 split
 ·exact absurd rfl h
 ·rfl
theorem spl_byt:∀ {l:List Int},byt l→∀ p∈spl 32 l,byt p
 | [],_=>by intro p hp; simp only [spl,List.mem_singleton] at hp; rw [hp]; exact byt_nil
 | x::l,h=>by
  have hl:byt l:=fun y hy=>h y (List.mem_cons_of_mem _ hy)
  have hx:=h x List.mem_cons_self
  have ih:=spl_byt hl
  intro p hp
  unfold spl at hp
  split at hp
  ·rcases List.mem_cons.1 hp with rfl | hp
   ·exact byt_nil
   ·exact ih p hp
  ·cases hs:spl 32 l with
   | nil=>exact absurd hs (spl_ne _ _)
   | cons q qs =>
    rw [hs] at hp ih
    rcases List.mem_cons.1 hp with rfl | hp
    ·exact byt_cons hx (ih q List.mem_cons_self)
    ·exact ih p (List.mem_cons_of_mem _ hp)
theorem parseHeader_eq {l:List Int} (hb:byt l) (hl:l.length≤5000):bundle_parseHeader (bstr l)=some (hdrOf l):=by
 have hsp:=split_eq hb hl
 have hby:=spl_byt hb
 unfold bundle_parseHeader hdrOf
 refine bnd hsp ?_
 generalize spl 32 l=ws at hby
 by_cases h6:ws.length=6
 case neg =>
  rw [hdrW_no h6]
  exact bndL (s:=true) (cnd_t (by rw [List.length_map]; exact bne_iff_ne.2 (by omega)) rfl) (cnd_t rfl rfl)
 obtain ⟨w,a,b,c,d,e,rfl⟩:=six h6
 have bw:=hby w (by simp)
 have hv:=ph_loop a b c d e (hby a (by simp)) (hby b (by simp)) (hby c (by simp)) (hby d (by simp)) (hby e (by simp))
 have hq:((bstr w).toList==(⟨#[66,85,78,68,76,69]⟩:ByteArray).toList)=decide (w=bunW):=by
  rw [eqL,sbytes_bstr bw]; rfl
 refine bndL (s := !decide (w=bunW)) (cnd_f rfl (bnd (x:=0) rfl (bnd (x:=bstr w) rfl (by rw [hq])))) ?_
 unfold hdrW
 by_cases hw:w=bunW
 ·rw [decide_eq_true hw]
  simp only [if_pos hw]
  refine cnd_f rfl (bnd (x:=[bstr a,bstr b,bstr c,bstr d,bstr e]) rfl ?_)
  by_cases hn:(numT a&&(numT b&&(numT c&&(numT d&&numT e))))=true
  ·simp only [if_pos hn] at hv ⊢
   exact bndL hv (bnd (x:=0) rfl (bnd rfl (bnd (x:=1) rfl (bnd rfl (bnd (x:=3) rfl (bnd rfl (bnd (x:=4) rfl (bnd rfl rfl))))))))
  ·simp only [if_neg hn] at hv ⊢
   exact bndR hv rfl
 ·rw [decide_eq_false hw]
  simp only [if_neg hw]
  exact cnd_t rfl rfl
theorem dig_no32 {n:Nat} (h:n<10 ^ 18):(32:Int) ∉ dgA 20 n []:=fun hx=>by
 have:=dgA_dig h _ hx
 unfold dig1 at this
 omega
theorem spl_nms:∀ (ns:List Nat) (p:List Int),(∀ n∈ns,n<10 ^ 18)→(32:Int) ∉ p→spl 32 (p++nmsL ns)=p::ns.map fun n=>dgA 20 n []
 | [],p,_,hp=>by simp only [nmsL,List.append_nil]; rw [spl_one hp]; rfl
 | n::ns,p,hn,hp=>by
  simp only [nmsL]
  rw [spl_app hp,spl_nms ns _ (fun m hm=>hn m (List.mem_cons_of_mem _ hm)) (dig_no32 (hn n List.mem_cons_self))]
  rfl
theorem num_dg {n:Nat} (h:n<10 ^ 10):numT (dgA 20 n [])=true∧vI (dgA 20 n [])=(n:Int):=by
 have h1:=num_dgA h
 obtain ⟨hb,_⟩:=dg_byt (n:=n) (by omega)
 obtain ⟨m,hm,hv⟩:=numT_eq (bstr (dgA 20 n []))
 rw [sbytes_bstr hb] at hm hv
 rw [h1] at hm
 have:=Prod.mk.inj (Option.some.inj hm)
 refine ⟨this.2.symm,?_⟩
 unfold vI
 rw [← hv this.2.symm,← this.1]
theorem no32W:(32:Int) ∉ bunW:=by decide
theorem hdr_known {o n k s v:Nat} (ho:o<10 ^ 10) (hn:n<10 ^ 10) (hk:k<10 ^ 10) (hs:s<10 ^ 10) (hv:v<10 ^ 10):hdrOf (bunW++nmsL [o,n,k,s,v])=(⟨o,n,s,v⟩,decide ((o:Int)≤1)):=by
 unfold hdrOf
 rw [spl_nms _ _ (by intro m hm; simp only [List.mem_cons,List.not_mem_nil,or_false] at hm; omega) no32W]
 obtain ⟨a1,a2⟩:=num_dg ho
 obtain ⟨b1,b2⟩:=num_dg hn
 obtain ⟨c1,c2⟩:=num_dg hk
 obtain ⟨d1,d2⟩:=num_dg hs
 obtain ⟨e1,e2⟩:=num_dg hv
 show hdrW [bunW,dgA 20 o [],dgA 20 n [],dgA 20 k [],dgA 20 s [],dgA 20 v []]=_
 unfold hdrW
 simp only [a1,b1,c1,d1,e1,a2,b2,d2,e2,Bool.and_self,if_true]
end Go.Abs.Sh
