/-
  What the functions that the law reaches do, one by one: contracts. Conditions: those that each of them prints.
-/
import Derived.Test.YthcnhbclagegeaaGreatDoorMg
import Derived.Deep.RegionWith
import Derived.Deep.DrawnRows
import Derived.Deep.RegionHeld3
set_option maxRecDepth 20000
set_option maxHeartbeats 3200000
namespace Go.Proofs.YthcnhbclagegeaaGreatDoor
open Go.RowKit RelA
section
namespace RelA
def Zkx (L:List Int) (i q:Nat):List (Int×Int):=(List.range q).map fun j=>(L.getD i 0,L.getD (i+1+j) 0)
def Zeb (L:List Int) (k:Nat):List (Int×Int):=(List.range k).flatMap fun i=>Zkx L i (L.length-(i+1))
def Zdj (C:List Ls) (t:Nat):List (Int×Int):=(List.range t).flatMap fun l=>Zeb (C.getD l Ls.zero).L (C.getD l Ls.zero).L.length
theorem Znd (L:List Int) (i q:Nat):(Zkx L i q).length=q:=by simp[Zkx]
theorem Zo0 (L:List Int) (i q:Nat):Zkx L i (q+1)=Zkx L i q ++ [(L.getD i 0,L.getD (i+1+q) 0)]:=by simp[Zkx,List.range_succ]
theorem Zis (L:List Int) (k:Nat):Zeb L (k+1)=Zeb L k++Zkx L k (L.length-(k+1)):=by simp[Zeb,List.range_succ]
theorem Zit (C:List Ls) (t:Nat):Zdj C (t+1)=Zdj C t++Zeb (C.getD t Ls.zero).L (C.getD t Ls.zero).L.length:=by simp[Zdj,List.range_succ]
theorem Zoz (L:List Int) (k:Nat) (hL:L.length<=40):(Zeb L k).length<=40*k:=by
 induction k with
 | zero=>simp[Zeb]
 | succ k ih=>rw[Zis,List.length_append,Znd];omega
theorem Zx1 (C:List Ls) (t:Nat) (h:∀ q,q<t->(C.getD q Ls.zero).L.length<=40):(Zdj C t).length<=1600*t:=by
 induction t with
 | zero=>simp[Zdj]
 | succ t ih=>
  have h1:=Zoz (C.getD t Ls.zero).L (C.getD t Ls.zero).L.length (h t (by omega))
  have h2:=h t (by omega)
  rw[Zit,List.length_append]
  have:=ih fun q hq=>h q (by omega)
  have:40*(C.getD t Ls.zero).L.length<=40*40:=Nat.mul_le_mul (Nat.le_refl _) h2
  omega
end RelA
theorem Zqs (g : Gr) (w : World) (h : LsIn w g.ca g.C) (he : g.E.length <= 40) (h4 : g.C.length <= 4) (hcc : g.C.length <= g.cc) (h40 : ∀ q, q < g.C.length -> (g.C.getD q Ls.zero).L.length <= 40) :
    Calls Tryz.prog 180 #[g.v] w (Zes g.n (ofM g.n (Zdj g.C g.C.length)) w) := by
  have HOF := jh (fun base v L w hown => of_own g base v L w he hown)
  have HG0 := jh (GBox.of_alloc w g 27)
  obtain⟨G, hG⟩ : ∃ G, G = g := ⟨_, rfl⟩
  obtain⟨locs, ea, E, ec, ra, R, rc, ca, C, cc, ma, Rmw, mc, da, Data, dc, ta, Ctrl, tc, ia, CtrlI, ic⟩ := g
  simp only[Gr.v, Gr.n, Zaw] at he HOF h h4 hcc h40 HG0 ⊢
  rw[<- hG] at HG0
  have HI := jh h
  clear h
  obtain⟨i0, hi, hz0, hz1, hz2⟩ := info_parts Ziz
  have hmin : min (C.length : Int) 4 = (C.length : Int) := by omega
  have H40 := jh h40
  clear h40
  go_enter Tryz.func180, Tryz.ntmps180
  go_wp2_with fail
  obtain⟨w1, hw1⟩ : ∃ x, x = w.alloc (Obj.cells #[.int .i64 locs, .slice ea E.length ec, .slice ra R.length rc, .slice ca C.length cc, .slice ma Rmw.length mc, .slice da Data.length dc, .slice ta Ctrl.length tc, .slice ia CtrlI.length ic] 27 (0, 0)) := ⟨_, rfl⟩
  rw[<- hw1] at HG0 ⊢
  have hs1 : w1.heap.size = w.heap.size+1 := by rw[hw1];simp
  have HB1 : Hid (Below w.heap.size w w1) := jh (by rw[hw1];exact jb)
  clear hw1
  have HI1 := jh (HI.out.next HB1.out)
  clear HI
  go_loopw [3, 18] (fun v x wr => ∃ t : Nat, t <= C.length /\ x = .int .i64 t /\ wr.ownsRow w1.heap.size 56 2 v (Zdj C t).length (Zdc (Zdj C t)) /\ Below w1.heap.size w1 wr) (fun _ x _ => C.length-(intOf x).toNat)
  case atStart => exact⟨0, Nat.zero_le _, rfl, ⟨rfl, .inl ⟨rfl, rfl⟩⟩, Below.refl _ _⟩
  case round =>
    obtain⟨t, htC, rfl, hown, hbe⟩ := hrel
    have hal := Zx1 C t (fun q hq => H40.out q (by omega))
    have HOWN := jh hown
    clear hown
    by_cases hlt : t<C.length
    . obtain⟨wo, rfl⟩ : ∃ wo : World, wo = wr := ⟨_, rfl⟩
      have hdk : decide ((t : Int)<(C.length : Int)) = true := by simp;omega
      have hki : (t : Int)<(C.length : Int) := by omega
      have ht4 : (t : Int)<4 := by omega
      rcases HI1.out with h0 | ⟨b, o, rfl, hbl, hcq⟩
      . rw[h0] at hlt;simp at hlt
      . obtain⟨c0', hns, hlc⟩ := hcq t hlt
        have c0 := Zaa c0' hbe
        have hL40 := H40.out t hlt
        have HS := jh (Zit C t)
        clear hcq c0'
        generalize C.getD t Ls.zero = ls at *
        obtain⟨la, L, lc⟩ := ls
        dsimp only at c0 hns hL40 HS hlc
        have hmn2 : min (L.length : Int) 40 = (L.length : Int) := by omega
        have HNS := jh hns
        have HBE0 := jh hbe
        clear hns
        go_wp2_with fail
        go_loopw [3, 29] (fun v x wi => ∃ k : Nat, k <= L.length /\ x = .int .i64 k /\ wi.ownsRow w1.heap.size 56 2 v (Zdj C t++Zeb L k).length (Zdc (Zdj C t++Zeb L k)) /\ Below w1.heap.size w1 wi) (fun _ x _ => L.length-(intOf x).toNat)
        case atStart => exact⟨0, Nat.zero_le _, rfl, by simp only[Zeb, List.range_zero, List.flatMap_nil, List.append_nil];exact HOWN.out, hbe⟩
        case round =>
          obtain⟨k, hk, rfl, hown, hbi⟩ := hrel
          have hol := Zoz L k hL40
          have hlen2 : (Zdj C t++Zeb L k).length <= 9000 := by rw[List.length_append];omega
          have HOWN2 := jh hown
          clear hown
          by_cases hkl : k<L.length
          . obtain⟨wo2, rfl⟩ : ∃ wo2 : World, wo2 = wr := ⟨_, rfl⟩
            have hdk2 : decide ((k : Int)<(L.length : Int)) = true := by simp;omega
            have hki2 : (k : Int)<(L.length : Int) := by omega
            have hk40 : (k : Int)<40 := by omega
            rcases HNS.out.next hbi with h0 | ⟨b2, o2, rfl, hbl2, hcc2⟩
            . rw[h0] at hkl;simp at hkl
            . have d0 := hcc2 k hkl
              clear hcc2
              have HS2 := jh (Zis L k)
              have hsub : ((L.length : Int)-((k : Int)+1)) = ((L.length-(k+1) : Nat) : Int) := by omega
              have hle1 : ((k : Int)+1) <= (L.length : Int) := by omega
              have hle2 : k+1 <= L.length := by omega
              obtain⟨ak, hak⟩ : ∃ ak, ak = L.getD k 0 := ⟨_, rfl⟩
              rw[<- hak] at d0
              have HAK : Hid (L.getD k 0 = ak) := jh hak.symm
              clear hak
              by_cases hlk : lc = k+1
              . go_wp2_with fail
                all_goals (try (exfalso;omega))
                go_loopw [3, 39] (fun v x wj => ∃ q : Nat, q <= L.length-(k+1) /\ x = .int .i64 q /\ wj.ownsRow w1.heap.size 56 2 v (Zdj C t++(Zeb L k++Zkx L k q)).length (Zdc (Zdj C t++(Zeb L k++Zkx L k q))) /\ Below w1.heap.size w1 wj) (fun _ x _ => L.length-(k+1)-(intOf x).toNat)
                case atStart => exact⟨0, Nat.zero_le _, rfl, by simp only[Zkx, List.range_zero, List.map_nil, List.append_nil];exact HOWN2.out, hbi⟩
                case round =>
                  obtain⟨q, hq, rfl, hown, hbj⟩ := hrel
                  have hsj := hbj.size
                  have hil := Znd L k q
                  have hlen3 : (Zdj C t++(Zeb L k++Zkx L k q)).length <= 9100 := by rw[List.length_append, List.length_append];omega
                  have HOWN3 := jh hown
                  clear hown
                  by_cases hql : q<L.length-(k+1)
                  . have hdq : decide ((q : Int)<((L.length-(k+1) : Nat) : Int)) = true := by simp;omega
                    have hqi : (q : Int)<((L.length-(k+1) : Nat) : Int) := by omega
                    have hq40 : (q : Int)<40 := by omega
                    exfalso;omega
                  . have hqN : q = L.length-(k+1) := by omega
                    have HQ := jh hqN
                    have hdq : decide ((q : Int)<((L.length-(k+1) : Nat) : Int)) = false := by simp;omega
                    clear hqN
                    go_wp2_with fail
                    go_roundw
                    case rel =>
                      refine⟨k+1, by omega, by go_num, ?_, hbj⟩
                      have h1 := HOWN3.out
                      rw[HQ.out, <- HS2.out] at h1
                      exact h1
                    case measure => simp[intOf];omega
              . go_wp2_with fail
                all_goals (try (exfalso;omega))
                go_loopw [3, 39] (fun v x wj => ∃ q : Nat, q <= L.length-(k+1) /\ x = .int .i64 q /\ wj.ownsRow w1.heap.size 56 2 v (Zdj C t++(Zeb L k++Zkx L k q)).length (Zdc (Zdj C t++(Zeb L k++Zkx L k q))) /\ Below w1.heap.size w1 wj) (fun _ x _ => L.length-(k+1)-(intOf x).toNat)
                case atStart => exact⟨0, Nat.zero_le _, rfl, by simp only[Zkx, List.range_zero, List.map_nil, List.append_nil];exact HOWN2.out, hbi⟩
                case round =>
                  obtain⟨q, hq, rfl, hown, hbj⟩ := hrel
                  have hsj := hbj.size
                  have hil := Znd L k q
                  have hlen3 : (Zdj C t++(Zeb L k++Zkx L k q)).length <= 9100 := by rw[List.length_append, List.length_append];omega
                  have HOWN3 := jh hown
                  clear hown
                  by_cases hql : q<L.length-(k+1)
                  . have hdq : decide ((q : Int)<((L.length-(k+1) : Nat) : Int)) = true := by simp;omega
                    have hqi : (q : Int)<((L.length-(k+1) : Nat) : Int) := by omega
                    have hq40 : (q : Int)<40 := by omega
                    rcases HNS.out.next hbj with h0 | ⟨b3, o3, hbo, hbl3, hcc3⟩
                    . rw[h0] at hkl;simp at hkl
                    . cases hbo
                      have d1 := hcc3 (k+1+q) (by omega)
                      clear hcc3
                      have HS3 := jh (Zo0 L k q)
                      rw[HAK.out] at HS3
                      have hoff : o2+(k+1+q) = o2+(k+1)+q := by omega
                      rw[hoff] at d1
                      generalize L.getD (k+1+q) 0 = bq at *
                      go_wp2_with (first
            | (at_builtin; refine wpList_append_own _ rfl (.tmp 43) (.tmp 47) 25 rfl w1.heap.size 56 i0 (.agg #[.int .i64 0, .int .i64 0]) 2 16 Tryz.underlying25 hi hz0 hz1 hz2 rfl (by decide) _ _ _ rfl (HOWN3.out.alloc _) ⟨wr.heap.size, 0, none⟩ 1 1 [.int .i64 ak, .int .i64 bq] rfl rfl (World.news_of_block (cs := #[.int .i64 ak, .int .i64 bq]) (t := 56) (fr := (0, 0)) (heap_alloc_new wr _)) (by simp [Value.oneCell']) (by unfold maxLen; omega) (by omega) (by simp; omega) ?_; intro v1 w2 hown1 hgrow1 hnil1; have HO1 := jh hown1; have HG1 := jh hgrow1; clear hown1 hgrow1 hnil1))
                      go_roundw
                      case rel =>
                        refine⟨q+1, by omega, by go_num, ?_, ?_⟩
                        . rw[HS3.out, <- List.append_assoc, <- List.append_assoc, Zko, List.length_append, List.append_assoc (Zdj C t)]
                          exact HO1.out
                        . exact(hbj.alloc hsj _).grown HG1.out (by simp;omega) (fun j hj => (HOWN3.out.lt j hj).1)
                      case measure => simp[intOf];omega
                  . have hqN : q = L.length-(k+1) := by omega
                    have HQ := jh hqN
                    have hdq : decide ((q : Int)<((L.length-(k+1) : Nat) : Int)) = false := by simp;omega
                    clear hqN
                    go_wp2_with fail
                    go_roundw
                    case rel =>
                      refine⟨k+1, by omega, by go_num, ?_, hbj⟩
                      have h1 := HOWN3.out
                      rw[HQ.out, <- HS2.out] at h1
                      exact h1
                    case measure => simp[intOf];omega
          . have hkN : k = L.length := by omega
            have HQ := jh hkN
            have hdk2 : decide ((k : Int)<(L.length : Int)) = false := by simp;omega
            clear hkN
            go_wp2_with fail
            go_roundw
            case rel =>
              refine⟨t+1, by omega, by go_num, ?_, hbi⟩
              have h1 := HOWN2.out
              rw[HQ.out, <- HS.out] at h1
              exact h1
            case measure => simp[intOf];omega
    . have hkN : t = C.length := by omega
      subst hkN
      have hdk : decide ((C.length : Int)<(C.length : Int)) = false := by simp
      obtain⟨c0, c1, c2, c3, c4, c5, c6, c7⟩ := HG0.out.next hbe
      rw[hG] at c0 c1 c2 c3 c4 c5 c6 c7
      dsimp only at c0 c1 c2 c3 c4 c5 c6 c7
      have HBw := jh (Zab HB1.out hbe)
      have HC := jh (HOF.out _ _ _ _ HOWN.out)
      go_wp2_with fail
      refine HC.out.mono ?_
      rintro e w3 ⟨d, rfl, hat, hnw, hb3⟩
      have HNW := jh (Nat.le_trans HBw.out.size hnw)
      clear hnw
      have HA := jh hat
      have HBf := jh (Zab HBw.out hb3)
      clear hat hb3
      go_wp2_with fail
      go_ret
      exact⟨_, rfl, HA.out, HNW.out, HBf.out⟩
end
section
attribute [local go_sem ↓] Go.wp_at_zero Go.wp_at_succ
namespace RelA
structure GOk (g:Gr):Prop where
 c4:g.C.length<=4
 l40:∀ q,q<g.C.length->(g.C.getD q Ls.zero).L.length<=40
noncomputable def rfM (g:Gr):Nat->Nat->Bool:=ofM g.n (rfL g.R g.R.length)
noncomputable def coM (g:Gr):Nat->Nat->Bool:=ofM g.n (Zdj g.C g.C.length)
end RelA
end
section
namespace RelA
def Za1:Nat->Nat->Bool:=fun _ _=>false
theorem Zhn (w:World):PIn w none [] 0:=.inl ⟨rfl,rfl,rfl⟩
end RelA
end
section
attribute [local go_sem ↓] Go.wp_at_zero Go.wp_at_succ
namespace RelA
structure Pm where
 d:Nat
 M:Nat->Nat->Bool
def Pm.zero:Pm:=⟨0,fun _ _=>false⟩
def PsIn (w:World) (a:Option Addr) (L:List Pm) (n:Nat):Prop:=
 L=[]∨∃ b,a=some ⟨b,0,none⟩/\b<w.heap.size/\∀ q,q<L.length->w.cell? ⟨b,q,none⟩=some (.pointer (some ⟨(L.getD q Pm.zero).d,0,none⟩))/\Rl w (L.getD q Pm.zero).d n (L.getD q Pm.zero).M
theorem PsIn.next {w w':World} {a:Option Addr} {L:List Pm} {n:Nat} (h:PsIn w a L n) (hb:Below w.heap.size w w'):PsIn w' a L n:=by
 rcases h with h | ⟨b,h1,h2,h3⟩
 ·exact .inl h
 ·exact .inr ⟨b,h1,Nat.lt_of_lt_of_le h2 hb.size,fun q hq=>⟨Zaa (h3 q hq).1 hb,(h3 q hq).2.next hb⟩⟩
theorem Rl.alloc {w:World} {d n:Nat} {M:Nat->Nat->Bool} (h:Rl w d n M) (o:Obj):Rl (w.alloc o) d n M:=h.next ((Below.refl _ _).alloc (Nat.le_refl _) o)
end RelA
namespace RelA
def evM (g:Gr) (kind:Int) (modes:List Int):Nat->Nat->Bool:=Zg7 g.n fun i=>evB kind modes (Ev.at g.E i)
theorem Zkh (w:World):NsIn w none []:=.inl rfl
end RelA
theorem Zdu (g:Gr) (kind:Int) (mo:Option Addr) (modes:List Int) (moc:Nat) (w:World) (h:GIn w g) (hm:NsIn w mo modes) (hl:modes.length<=10) :
  Calls Tryz.prog 65 #[g.v,.int .i64 kind,.slice mo modes.length moc] w (Zes g.n (evM g kind modes) w):=by
 have HC:=jh (fun kb mb w' (hb:Below w.heap.size w w') hk hm2=>Ykm g kb mb kind mo modes moc w' (h.es.next hb) h.e40 h.ecap hk hm2 (hm.next hb) hl)
 unfold evM
 have HG0:=jh (GBox.of_alloc w g 27)
 obtain⟨G,hG⟩:∃ G,G=g:=⟨_,rfl⟩
 obtain⟨locs,ea,E,ec,ra,R,rc,ca,C,cc,ma,Rmw,mc,da,Data,dc,ta,Ctrl,tc,ia,CtrlI,ic⟩:=g
 simp only[Gr.v,Gr.n,Zaw] at HC HG0 ⊢
 rw[<- hG] at HG0
 clear h hm HG0 hG
 go_enter Tryz.func65,Tryz.ntmps65
 go_wp2_with fail
 obtain⟨w1,hw1⟩:∃ x,x=w.alloc (Obj.cells #[.int .i64 locs,.slice ea E.length ec,.slice ra R.length rc,.slice ca C.length cc,.slice ma Rmw.length mc,.slice da Data.length dc,.slice ta Ctrl.length tc,.slice ia CtrlI.length ic] 27 (0,0)):=⟨_,rfl⟩
 have hs1:w1.heap.size=w.heap.size+1:=by rw[hw1];simp
 obtain⟨w2,hw2⟩:∃ x,x=w1.alloc (Obj.cells #[.int .i64 kind] 3 (0,0)):=⟨_,rfl⟩
 have hs2:w2.heap.size=w.heap.size+1+1:=by rw[hw2];simp[hs1]
 obtain⟨w3,hw3⟩:∃ x,x=w2.alloc (Obj.cells #[.slice mo modes.length moc] 23 (0,0)):=⟨_,rfl⟩
 rw[<- hw1,<- hw2,<- hw3]
 have b1:Below w.heap.size w w1:=by rw[hw1];exact jb
 have b2:Below w1.heap.size w1 w2:=by rw[hw2];exact jb
 have b3:Below w2.heap.size w2 w3:=by rw[hw3];exact jb
 have hk:w3.cell? ⟨w.heap.size+1,0,none⟩=some (.int .i64 kind):=Zaa (by rw[<- hs1,hw2,cell_of_row _ _ _ _ _ _ (heap_alloc_new _ _)];rfl) b3
 have hm2:w3.cell? ⟨w.heap.size+1+1,0,none⟩=some (.slice mo modes.length moc):=by rw[<- hs2,hw3,cell_of_row _ _ _ _ _ _ (heap_alloc_new _ _)];rfl
 have HB:=jh (Zab (Zab b1 b2) b3)
 have HK:=jh (HC.out _ _ w3 HB.out hk hm2)
 clear hw1 hw2 hw3 b1 b2 b3 hk hm2 HC
 refine HK.out.mono ?_
 rintro e w4 ⟨d,rfl,hat,hnw,hbe⟩
 have HNW:=jh (Nat.le_trans HB.out.size hnw)
 clear hnw
 have HA:=jh hat
 have HB4:=jh (Zab HB.out hbe)
 clear hat hbe
 go_wp2_with fail
 go_ret
 exact⟨_,rfl,HA.out,HNW.out,HB4.out⟩
end
section
attribute [local go_sem ↓] Go.wp_at_zero Go.wp_at_succ
namespace RelA
structure Bl (w W:World):Prop where
 out:Below w.heap.size w W
end RelA
end
section
attribute [local go_sem ↓] Go.wp_at_zero Go.wp_at_succ
namespace RelA
end RelA
end
end Go.Proofs.YthcnhbclagegeaaGreatDoor
