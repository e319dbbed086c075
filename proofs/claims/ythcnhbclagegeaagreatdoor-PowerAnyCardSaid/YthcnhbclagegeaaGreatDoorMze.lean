/-
  awake() of law 20 is true: by what its parts do, and its graphs' relations. Conditions: the table of bits in its variable.
-/
import Derived.Test.YthcnhbclagegeaaGreatDoorMzd
set_option maxRecDepth 100000
set_option maxHeartbeats 8000000
namespace Go.Proofs.YthcnhbclagegeaaGreatDoor
open Go.RowKit RelA
attribute [local go_sem ↓] Go.wp_at_zero Go.wp_at_succ
attribute [local irreducible] RelA.rcells
theorem Ygp {n:Nat} {R:Nat->Nat} {M:Nat->Nat->Bool} (h:Lk R M) (a b:Nat) (ha:a<n) (hb:b<n):Zt4 n R (a:Int) (b:Int)=M a b:=by
 have e:(R a).testBit b=M a b:=by rw[Bool.eq_iff_iff];exact h a b
 unfold Zt4
 simp[ha,hb,e]
theorem Yj0 (b n:Nat) (M:Nat->Nat->Bool) (w:World) (h:Rl w b n M) (hn:n<=40) (h5:4<n) (x:Bool) (hx:M 2 4=x) :
  Calls Tryz.prog 23 #[.pointer (some ⟨b,0,none⟩),.int .i64 2,.int .i64 4] w fun e w'=>e=.returned (.bool x)/\w=w':=by
 obtain⟨⟨R,h1,h2,h3⟩,h4⟩:=h
 refine(Zwi b n R (2:Nat) (4:Nat) w h1 hn (fun i _=>by have:=h2 i;omega)).mono ?_
 rintro e w' ⟨rfl,rfl⟩
 exact⟨by rw[Ygp h3 2 4 (by omega) h5,hx],rfl⟩
namespace ToldP
namespace L20
open Go.Rn (Rho RV Mp Tells chV chW Zau kcL Zbr Zcc isB Zt1 Zg3 Zci Ze3 Zck inL Zbk Za8 he denC_cons denC_nil Zkv dsc_cons dsc_nil den Za7)
variable {g:Gr} {w0:World}
theorem Ye1:Zg3 (Zcc ysE (inL txtP.fsL) (fun _ _=>none) (kcL tl0) 60 46 (.cons gR .nil) 100 he 100)=some (.cons (.mp 1) p27):=by kernel_rfl
theorem Yp2 (c:Cx g none [] 0 w0) (w:World) (hb:Below w0.heap.size w0 w):Calls Tryz.prog 46 #[g.v] w fun e w'=>∃ d,e=.returned (.pointer (some ⟨d,0,none⟩))/\Rl w' d g.n (mx g [] (Zac g) p27)/\Below w.heap.size w w':=by
 refine(Zck (ρ:=rho g none [] 0 w0 (Zac g)) Zcu (Zbk txtP.fsL_ok) Za8 (kc:=kcL tl0) (Zbr (Zf8 c)) globs (w:=w) hb Ye1 (vs:=[g.v]) (fun m=>denC_cons.2 ⟨_,_,rfl,Zg4 m,denC_nil.2 rfl⟩)).mono ?_
 rintro e w' ⟨B,C,el,fr,rfl,h1,h2,o⟩
 exact⟨B,rfl,h2 w' B h1,o.below⟩
theorem Ye2:Zg3 (Zcc ysE (inL txtP.fsL) (fun _ _=>none) (kcL tl0) 60 47 (.cons gR .nil) 100 he 100)=some (.cons (.mp 1) p31):=by kernel_rfl
theorem Yp5 (c:Cx g none [] 0 w0) (w:World) (hb:Below w0.heap.size w0 w):Calls Tryz.prog 47 #[g.v] w fun e w'=>∃ d,e=.returned (.pointer (some ⟨d,0,none⟩))/\Rl w' d g.n (mx g [] (Zac g) p31)/\Below w.heap.size w w':=by
 refine(Zck (ρ:=rho g none [] 0 w0 (Zac g)) Zcu (Zbk txtP.fsL_ok) Za8 (kc:=kcL tl0) (Zbr (Zf8 c)) globs (w:=w) hb Ye2 (vs:=[g.v]) (fun m=>denC_cons.2 ⟨_,_,rfl,Zg4 m,denC_nil.2 rfl⟩)).mono ?_
 rintro e w' ⟨B,C,el,fr,rfl,h1,h2,o⟩
 exact⟨B,rfl,h2 w' B h1,o.below⟩
theorem bf0 (w:World):Calls Tryz.prog 45 #[.int .i64 0] w fun e w'=>∃ A,e=.returned (g0 A).v/\GIn w' (g0 A)/\Below w.heap.size w w':=by
 refine(Buf.buf0 w).mono ?_
 rintro e w' ⟨ea,ec,ra,rc,ca,cc,a0,c0,a1,c1,h1,h2,h3⟩
 exact⟨⟨ea,ec,ra,rc,ca,cc,a0,c0,a1,c1⟩,h1,h2,h3⟩
theorem bf3 (w:World):Calls Tryz.prog 45 #[.int .i64 3] w fun e w'=>∃ A,e=.returned (g3 A).v/\GIn w' (g3 A)/\Below w.heap.size w w':=by
 refine(Buf.buf3 w).mono ?_
 rintro e w' ⟨ea,ec,ra,rc,ca,cc,a0,c0,a1,c1,h1,h2,h3⟩
 exact⟨⟨ea,ec,ra,rc,ca,cc,a0,c0,a1,c1⟩,h1,h2,h3⟩
theorem bf4 (w:World):Calls Tryz.prog 45 #[.int .i64 4] w fun e w'=>∃ A,e=.returned (g4 A).v/\GIn w' (g4 A)/\Below w.heap.size w w':=by
 refine(Buf.buf4 w).mono ?_
 rintro e w' ⟨ea,ec,ra,rc,ca,cc,a0,c0,a1,c1,h1,h2,h3⟩
 exact⟨⟨ea,ec,ra,rc,ca,cc,a0,c0,a1,c1⟩,h1,h2,h3⟩
theorem awake_l (w:World) (ht:Tab w):Calls Tryz.prog 13 #[] w fun e w'=>e=.returned (.bool true)/\Below w.heap.size w w':=by
 have HC0:=jh (fun (w':World) (A:Ad) (hg:GIn w' (g0 A)) (hb:Below w.heap.size w w')=>(⟨hg,ht.next hb,ck0,Zhn _,by simp⟩:Cx (g0 A) none [] 0 w'))
 have HC3:=jh (fun (w':World) (A:Ad) (hg:GIn w' (g3 A)) (hb:Below w.heap.size w w')=>(⟨hg,ht.next hb,ck3,Zhn _,by simp⟩:Cx (g3 A) none [] 0 w'))
 have HC4:=jh (fun (w':World) (A:Ad) (hg:GIn w' (g4 A)) (hb:Below w.heap.size w w')=>(⟨hg,ht.next hb,ck4,Zhn _,by simp⟩:Cx (g4 A) none [] 0 w'))
 clear ht
 go_enter Tryz.func13,Tryz.ntmps13
 go_wp2_with fail
 refine(bf0 w).mono ?_
 rintro e u0 ⟨A0,rfl,hg,hb⟩
 have HU0:=jh (Zab (Below.refl _ _) hb)
 have CX0:=HC0.out _ _ hg HU0.out
 clear hg hb
 have HF0:=jh (Xbr CX0 u0 (Below.refl _ _))
 clear CX0
 generalize (g0 A0).v=G0 at *
 go_wp2_with fail
 refine HF0.out.mono ?_
 rintro e w1 ⟨rfl,hb⟩
 have HB1:=jh (Zab HU0.out hb)
 clear hb HF0
 go_wp2_with fail
 refine(bf3 w1).mono ?_
 rintro e u1 ⟨A1,rfl,hg,hb⟩
 have HU1:=jh (Zab HB1.out hb)
 have CX1:=HC3.out _ _ hg HU1.out
 clear hg hb
 have HF1:=jh (Xbq CX1 u1 (Below.refl _ _))
 clear CX1
 generalize (g3 A1).v=G1 at *
 go_wp2_with fail
 refine HF1.out.mono ?_
 rintro e w2 ⟨rfl,hb⟩
 have HB2:=jh (Zab HU1.out hb)
 clear hb HF1
 go_wp2_with fail
 refine(bf4 w2).mono ?_
 rintro e u2 ⟨A2,rfl,hg,hb⟩
 have HU2:=jh (Zab HB2.out hb)
 have CX2:=HC4.out _ _ hg HU2.out
 clear hg hb
 have HF2:=jh (Xbp CX2 u2 (Below.refl _ _))
 clear CX2
 generalize (g4 A2).v=G2 at *
 go_wp2_with fail
 refine HF2.out.mono ?_
 rintro e w3 ⟨rfl,hb⟩
 have HB3:=jh (Zab HU2.out hb)
 clear hb HF2
 go_wp2_with fail
 refine(bf4 w3).mono ?_
 rintro e u3 ⟨A3,rfl,hg,hb⟩
 have HU3:=jh (Zab HB3.out hb)
 have CX3:=HC4.out _ _ hg HU3.out
 clear hg hb
 have HF3:=jh (Yp2 CX3 u3 (Below.refl _ _))
 have HM3:=jh (show mx (g4 A3) [] (Zac (g4 A3)) p27 2 4=true from (k427.bit 2 4 (by decide) (by decide)).trans (by kernel_rfl))
 have HN3:Hid ((g4 A3).n=8):=jh rfl
 clear CX3
 generalize (g4 A3).v=G3 at *
 generalize mx (g4 A3) [] (Zac (g4 A3)) p27=M3 at *
 generalize (g4 A3).n=n3 at *
 go_wp2_with fail
 refine HF3.out.mono ?_
 rintro e v3 ⟨d3,rfl,hr,hb⟩
 have HV3:=jh (Zab HU3.out hb)
 have HH3:=jh (Yj0 _ _ _ _ hr (by rw[HN3.out];decide) (by rw[HN3.out];decide) true HM3.out)
 clear hb hr HF3 HM3 HN3
 go_wp2_with fail
 refine HH3.out.mono ?_
 rintro e w4 ⟨rfl,rfl⟩
 have HB4:=HV3
 clear HH3
 go_wp2_with fail
 refine(bf3 v3).mono ?_
 rintro e u4 ⟨A4,rfl,hg,hb⟩
 have HU4:=jh (Zab HB4.out hb)
 have CX4:=HC3.out _ _ hg HU4.out
 clear hg hb
 have HF4:=jh (Yp5 CX4 u4 (Below.refl _ _))
 have HM4:=jh (show mx (g3 A4) [] (Zac (g3 A4)) p31 2 4=false from (k331.bit 2 4 (by decide) (by decide)).trans (by kernel_rfl))
 have HN4:Hid ((g3 A4).n=8):=jh rfl
 clear CX4
 generalize (g3 A4).v=G4 at *
 generalize mx (g3 A4) [] (Zac (g3 A4)) p31=M4 at *
 generalize (g3 A4).n=n4 at *
 go_wp2_with fail
 refine HF4.out.mono ?_
 rintro e v4 ⟨d4,rfl,hr,hb⟩
 have HV4:=jh (Zab HU4.out hb)
 have HH4:=jh (Yj0 _ _ _ _ hr (by rw[HN4.out];decide) (by rw[HN4.out];decide) false HM4.out)
 clear hb hr HF4 HM4 HN4
 go_wp2_with fail
 refine HH4.out.mono ?_
 rintro e w5 ⟨rfl,rfl⟩
 have HB5:=HV4
 clear HH4
 go_wp2_with fail
 refine(cons_no (g:=⟨0,none,[],0,none,[],0,none,[],0,none,[],0,none,[],0,none,[],0,none,[],0⟩) (w0:=v4) ⟨.inl rfl,.inl rfl,.inl rfl,.inl ⟨rfl,rfl,rfl⟩,.inl ⟨rfl,rfl,rfl⟩,.inl ⟨rfl,rfl,rfl⟩,.inl ⟨rfl,rfl,rfl⟩,by simp,by simp,by simp,fun q hq=>(by simp at hq),by simp,by simp,by simp,by simp⟩ (fun h=>by have:=h.l1;simp at this) v4 (Below.refl _ _)).mono ?_
 rintro e w6 ⟨rfl,hb⟩
 have HB6:=jh (Zab HB5.out hb)
 clear hb
 go_wp2_with fail
 go_ret
 exact⟨rfl,HB6.out⟩
end L20
end ToldP
end Go.Proofs.YthcnhbclagegeaaGreatDoor
