/- Parts of the proof. -/
import Derived.Test.YtmopekkhmhhcaaaGreatFL
import Derived.Test.YtmopekkhmhhcaaaGreatFK22
set_option maxRecDepth 100000
set_option maxHeartbeats 16000000
namespace Go.Proofs.YtmopekkhmhhcaaaGreat
open Go.Proofs.Tryz
namespace Kc
open Go.RowKit Pv
theorem q0V(q:List Pkt)(v:Value)(P:Nat->Prop)(w:World)(h:z7X P w v q):Calls prog 191 #[v] w fun e w'=>e=.returned (.bool (q.all z5E))/\Below w.heap.size w w':=by
 obtain⟨z,hz,hr,hin⟩:=h;obtain⟨A,C,rfl,hs,-,hc,-⟩:=hr.open (z1C q z hz) (by decide)
 have HC:=hide hc;have hlen:q.length<=3518437208781:=by omega
 obtain⟨G,hG⟩:∃ G,q.all z5E=G:=⟨_,rfl⟩;have HG:=hide hG;have HIN:=hide hin;rw[hG];clear hc hr hs hG hin
 go_enter func191,ntmps191
 go_upto_region 2 with fail
 go_loopw [7] (fun i wl=>∃ (k:Nat),k<=q.length/\i=.int .i64 (k:Int)/\Hid (G=(q.drop k).all z5E/\Below w.heap.size w wl)) (fun i _=>q.length - (intOf i).toNat)
 case atStart=>exact⟨0,Nat.zero_le _,rfl,HG.out.symm,Below.refl _ _⟩
 case round =>
  obtain⟨k,hk,rfl,HR⟩:=hrel
  by_cases hlt:k<q.length
  ·have hkI:(k:Int)<(q.length:Int):=by omega
   obtain⟨x,hx,hd⟩:=z3H hlt;obtain⟨b,off,rfl,-,hbl,hcell⟩:=HC.out (by omega)
   have hky:k<z.length:=by omega
   have hy:z[k]?=some z[k]:=List.getElem?_eq_getElem hky;obtain⟨r1,r2⟩:=HIN.out k x _ hx hy
   have cl:∀ j,j<6->∀ u,(pkL x z[k])[j]?=some u->wr.cell? ⟨b,off+k * 6+j,none⟩=some u:=fun j hj u hu=>by
    rw[Nat.add_assoc];exact (HR.out.2.cell (p:=⟨b,off+(k * 6+j),none⟩) hbl).trans (hcell _ _ ((z6m q z k x _ j hx hy hj).trans hu))
   have c0:=cl 0 (by omega) _ rfl
   have c1:=cl 1 (by omega) _ rfl
   have c2:=cl 2 (by omega) _ rfl
   have c3:=cl 3 (by omega) _ rfl
   have c4:=cl 4 (by omega) _ rfl
   have c5:=cl 5 (by omega) _ rfl
   rw[Nat.add_zero]at c0;have HE:Hid (G=(z5E x && (q.drop (k+1)).all z5E)):=by have:=HR.out.1;rw[hd,List.all_cons]at this;exact this
   have HO:Hid (z5E x=(decide (x.k=1) && decide (Cd.z0m x.k x.i x.v x.n x.S x.D=0))):=rfl;generalize z[k]=y at *;obtain⟨y1,y2⟩:=y;dsimp only at c0 c1 c2 c3 c4 c5 r1 r2;obtain⟨A1,C1,A2,C2,sb,so,db,dO,rfl,rfl,hL⟩:=Rep.lies r1 r2;have HB:=hide (HR.out.2.alloc HR.out.2.size (.cells #[.int .i64 x.k,.int .i64 x.i,.int .i64 x.v,.int .i64 x.n,.slice A1 x.S.length C1,.slice A2 x.D.length C2] 70));have HGD:=hide (fun (wx:World) (hb:Below w.heap.size w wx)=>Cd.z0o x.k x.i x.v x.n x.S x.D A1 A2 C1 C2 sb so db dO wx hL.hls hL.hld hL.hsa hL.hda (hL.later hb).PS (hL.later hb).PD);clear HR hd hx hy r1 r2 cl hcell hL hky;obtain⟨xk,xi,xv,xn,xS,xD⟩:=x;dsimp only at *;generalize Cd.z0m xk xi xv xn xS xD=gn at *
   by_cases h1:xk=1
   ·subst h1
    by_cases h2:gn=0
    ·subst h2;have e:G=(q.drop (k+1)).all z5E:=by rw[HE.out,HO.out];simp
     have HE2:=hide e;clear e HE
     go_wp2_with (go_at_call 34;refine (HGD.out _ HB.out).mono ?_;rintro e w2⟨rfl,hb2⟩;have HB2:=hide (zbt HB.out hb2);clear hb2)
     first | exact⟨⟨k+1,by omega,by go_num,HE2.out,HB2.out⟩,by simp[intOf];omega⟩ | ((repeat apply Exists.intro);exact⟨⟨k+1,by omega,by go_num,HE2.out,HB2.out⟩,rfl⟩)
    ·have e:G=false:=by rw[HE.out,HO.out];simp[h2]
     subst e;have h2':(gn != 0)=true:=by simpa using h2
     clear HE HG
     go_wp2_with (go_at_call 34;refine (HGD.out _ HB.out).mono ?_;rintro e w2⟨rfl,hb2⟩;have HB2:=hide (zbt HB.out hb2);clear hb2)
     go_ret;exact⟨rfl,HB2.out⟩
   ·have e:G=false:=by rw[HE.out,HO.out];simp[h1]
    subst e;have h1':(xk != 1)=true:=by simpa using h1
    clear HE HG;go_wp2;go_ret;exact⟨rfl,HB.out⟩
  ·obtain rfl:k=q.length:=by omega
   have e:G=true:=by have:=HR.out.1;rw[List.drop_length]at this;exact this
   subst e;go_wp2;go_ret;exact⟨rfl,HR.out.2⟩
theorem z0Z{w:World}{g:Nat}{c:Cs}{v:CsV}(h:CAt 63 w g (csC c v)):(w.cell? ⟨g,0,none⟩=some (.bool c.on)/\w.cell? ⟨g,1,none⟩=some (.bool c.gone)/\w.cell? ⟨g,2,none⟩=some (.int .i64 c.h)/\w.cell? ⟨g,3,none⟩=some (.int .i64 c.t)/\w.cell? ⟨g,4,none⟩=some (.int .i64 c.id))/\(w.cell? ⟨g,5,none⟩=some v.set/\w.cell? ⟨g,6,none⟩=some v.pd/\w.cell? ⟨g,7,none⟩=some v.rp)/\(w.cell? ⟨g,14,none⟩=some v.said/\w.cell? ⟨g,15,none⟩=some v.due/\w.cell? ⟨g,16,none⟩=some (.int .i64 c.out.g)/\w.cell? ⟨g,17,none⟩=some (.bool c.out.cl)):=
 ⟨⟨h.cell 0,h.cell 1,h.cell 2,h.cell 3,h.cell 4⟩,⟨h.cell 5,h.cell 6,h.cell 7⟩,⟨h.cell 14,h.cell 15,h.cell 16,h.cell 17⟩⟩
def q8O(c:Cs):Bool:=!(c.on && c.gone) && decide (0<=c.h) && decide (c.h<1099511627776) && isT c.t && isT c.id
theorem j3d(c:Cs):z8P c=(q8O c && (z2N (-1) c.set && c.pd.all z5E && c.rp.all z7U && Ln.z0T c.out)):=rfl
theorem q8o(c:Cs)(v:CsV)(P:Nat->Prop)(w:World)(hp:CIn P w c v) :
  Calls prog 165 #[.agg (csC c v)] w fun e w'=>e=.returned (.bool (z8P c))/\Below w.heap.size w w':=by
 have HG:=hide (j3d c);generalize z8P c=G at *;have HN:Hid (q8O c=(!(c.on && c.gone) && decide (0<=c.h) && decide (c.h<1099511627776) && isT c.t && isT c.id)):=rfl;generalize q8O c=N1 at *;have HLN:=hide (fun (wx:World) (hb:Below w.heap.size w wx)=>q7W c.out v.said v.due P wx (hp.said.over hb) (hp.due.over hb));have HST:=hide (fun (wx:World) (hb:Below w.heap.size w wx)=>j1d c.set v.set P wx (hp.set.over hb));have HPD:=hide (fun (wx:World) (hb:Below w.heap.size w wx)=>q0V c.pd v.pd P wx (hp.pd.over hb));have HRP:=hide (fun (wx:World) (hb:Below w.heap.size w wx)=>q5s c.rp v.rp P wx (hp.rp.over hb));clear hp;obtain⟨cs,hcs⟩:∃ cs,csC c v=cs:=⟨_,rfl⟩;rw[hcs];have HCS:=hide hcs;clear hcs
 go_enter func165,ntmps165
 go_upto_region 1 with fail
 have C1:CAt 63 (w.alloc (.cells cs 63)) w.heap.size (csC c v):=by rw[HCS.out];exact CAt.new _ w cs
 have B1:Below w.heap.size w (w.alloc (.cells cs 63)):=znw w _;generalize w.alloc (.cells cs 63)=w1 at *;have HX:=hide (show _/\_ from⟨C1,B1⟩);obtain⟨⟨a0,a1,a2,a3,a4⟩,⟨a5,a6,a7⟩,⟨a14,a15,a16,a17⟩⟩:=z0Z C1;clear C1 B1 HCS;generalize z2N (-1) c.set=gs at *;generalize c.pd.all z5E=gp at *;generalize c.rp.all z7U=gr at *;generalize Ln.z0T c.out=gl at *;generalize c.on=con at *;generalize c.gone=cgo at *;generalize c.h=ch at *;generalize c.t=ct at *;generalize c.id=cid at *;have HTI:=hide (fun n (wx:World)=>z7K n wx)
 have hcs:(con=true/\cgo=true/\N1=false)∨((con=false∨(con=true/\cgo=false))/\((¬ 0<=ch/\N1=false)∨(0<=ch/\((¬ ch<1099511627776/\N1=false)∨(ch<1099511627776/\((isT ct=false/\N1=false)∨(isT ct=true/\((isT cid=false/\N1=false)∨(isT cid=true/\N1=true))))))))):=by
  rw[HN.out]
  by_cases h1:con=true/\cgo=true
  ·left;obtain⟨rfl,rfl⟩:=h1;simp
  ·right
   have h1':(con && cgo)=false:=by cases con <;> cases cgo <;> simp_all
   refine⟨by cases con <;> simp_all,?_⟩
   rw[h1']
   by_cases h2:0<=ch
   ·refine .inr ⟨h2,?_⟩
    by_cases h3:ch<1099511627776
    ·refine .inr ⟨h3,?_⟩;cases h4:isT ct
     ·left;simp
     ·right
      refine⟨rfl,?_⟩;cases h5:isT cid
      ·left;simp
      ·right;simp[h2,h3]
    ·exact .inl ⟨h3,by simp[h3]⟩
   ·exact .inl ⟨h2,by simp[h2]⟩
 clear HN
 rcases hcs with⟨rfl,rfl,rfl⟩ | ⟨hon,hcs⟩
 ·have e:G=false:=by rw[HG.out,Bool.false_and]
  subst e;go_wp2;go_ret;exact⟨rfl,HX.out.2⟩
 rcases hcs with⟨h1,rfl⟩ | ⟨h1,⟨h2,rfl⟩ | ⟨h2,⟨h3,rfl⟩ | ⟨h3,⟨h4,rfl⟩ | ⟨h4,rfl⟩⟩⟩⟩
 ·have e:G=false:=by rw[HG.out,Bool.false_and]
  subst e
  rcases hon with rfl | ⟨rfl,rfl⟩
  all_goals
   go_wp2;go_ret;exact⟨rfl,HX.out.2⟩
 ·have e:G=false:=by rw[HG.out,Bool.false_and]
  subst e
  rcases hon with rfl | ⟨rfl,rfl⟩
  all_goals
   go_wp2;go_ret;exact⟨rfl,HX.out.2⟩
 ·have e:G=false:=by rw[HG.out,Bool.false_and]
  subst e
  rcases hon with rfl | ⟨rfl,rfl⟩
  all_goals
   go_wp2_with (go_at_call 125;refine (HTI.out _ _).mono ?_;rintro e w'⟨rfl,rfl⟩)
   go_ret;exact⟨rfl,HX.out.2⟩
 ·have e:G=false:=by rw[HG.out,Bool.false_and]
  subst e
  rcases hon with rfl | ⟨rfl,rfl⟩
  all_goals
   go_wp2_with (go_at_call 125;refine (HTI.out _ _).mono ?_;rintro e w'⟨rfl,rfl⟩)
   go_ret;exact⟨rfl,HX.out.2⟩
 ·rw[Bool.true_and]at HG;have hon2:(con && cgo)=false:=by rcases hon with rfl | ⟨rfl,rfl⟩ <;> simp
  rcases hon with rfl | ⟨rfl,rfl⟩
  all_goals
   go_upto_region 3 with (go_at_call 125;refine (HTI.out _ _).mono ?_;rintro e w'⟨rfl,rfl⟩)
   cases gs
   ·go_wp2_with (go_at_call 190;refine (HST.out _ HX.out.2).mono ?_;rintro e w2⟨rfl,hb2⟩)
    go_ret;exact⟨by rw[HG.out];rfl,zbt HX.out.2 hb2⟩
   ·cases gp
    ·go_wp2_with (first
      | (go_at_call 190;refine (HST.out _ HX.out.2).mono ?_;rintro e w2⟨rfl,hb2⟩;have HY:=hide (show _/\_ from⟨HX.out.1.over hb2,zbt HX.out.2 hb2⟩);clear a0 a1 a2 a3 a4 a5 a6 a7 a14 a15 a16 a17 hb2;obtain⟨-,⟨a5,a6,a7⟩,⟨a14,a15,a16,a17⟩⟩:=z0Z HY.out.1)
      | (go_at_call 191;refine (HPD.out _ HY.out.2).mono ?_;rintro e w3⟨rfl,hb3⟩))
     go_ret;exact⟨by rw[HG.out];rfl,zbt HY.out.2 hb3⟩
    ·cases gr
     ·go_wp2_with (first
       | (go_at_call 190;refine (HST.out _ HX.out.2).mono ?_;rintro e w2⟨rfl,hb2⟩;have HY:=hide (show _/\_ from⟨HX.out.1.over hb2,zbt HX.out.2 hb2⟩);clear a0 a1 a2 a3 a4 a5 a6 a7 a14 a15 a16 a17 hb2;obtain⟨-,⟨a5,a6,a7⟩,⟨a14,a15,a16,a17⟩⟩:=z0Z HY.out.1)
       | (go_at_call 191;refine (HPD.out _ HY.out.2).mono ?_;rintro e w3⟨rfl,hb3⟩;have HZ:=hide (show _/\_ from⟨HY.out.1.over hb3,zbt HY.out.2 hb3⟩);clear a5 a6 a7 a14 a15 a16 a17 hb3;obtain⟨-,⟨a5,a6,a7⟩,⟨a14,a15,a16,a17⟩⟩:=z0Z HZ.out.1)
       | (go_at_call 192;refine (HRP.out _ HZ.out.2).mono ?_;rintro e w4⟨rfl,hb4⟩))
      go_ret;exact⟨by rw[HG.out];rfl,zbt HZ.out.2 hb4⟩
     ·go_wp2_with (first
       | (go_at_call 190;refine (HST.out _ HX.out.2).mono ?_;rintro e w2⟨rfl,hb2⟩;have HY:=hide (show _/\_ from⟨HX.out.1.over hb2,zbt HX.out.2 hb2⟩);clear a0 a1 a2 a3 a4 a5 a6 a7 a14 a15 a16 a17 hb2;obtain⟨-,⟨a5,a6,a7⟩,⟨a14,a15,a16,a17⟩⟩:=z0Z HY.out.1)
       | (go_at_call 191;refine (HPD.out _ HY.out.2).mono ?_;rintro e w3⟨rfl,hb3⟩;have HZ:=hide (show _/\_ from⟨HY.out.1.over hb3,zbt HY.out.2 hb3⟩);clear a5 a6 a7 a14 a15 a16 a17 hb3;obtain⟨-,⟨a5,a6,a7⟩,⟨a14,a15,a16,a17⟩⟩:=z0Z HZ.out.1)
       | (go_at_call 192;refine (HRP.out _ HZ.out.2).mono ?_;rintro e w4⟨rfl,hb4⟩;have HU:=hide (show _/\_ from⟨HZ.out.1.over hb4,zbt HZ.out.2 hb4⟩);clear a5 a6 a7 a14 a15 a16 a17 hb4;obtain⟨-,⟨a5,a6,a7⟩,⟨a14,a15,a16,a17⟩⟩:=z0Z HU.out.1)
       | (go_at_call 145;refine (HLN.out _ HU.out.2).mono ?_;rintro e w5⟨rfl,hb5⟩))
      go_ret;exact⟨by rw[HG.out];rfl,zbt HU.out.2 hb5⟩
attribute [local go_sem ↓] z1t
theorem z4F(g:Nat)(c:Cs)(v:CsV)(P:Nat->Prop)(w:World)(h:CAt 63 w g (csC c v))(hp:CIn P w c v) :
  Calls prog 124 #[.pointer (some ⟨g,0,none⟩)] w fun e w'=>e=.returned (.int .i64 (z5p c))/\Below w.heap.size w w':=by
 have HR:Hid (z5p c=if z8P c=true then (if c.on=true then 0 else 4) else 2):=rfl;generalize z5p c=R at *;have HGD:=hide (q8o c v P w hp);have HC:=hide h;have l0:=z3c h (z0p _ _);clear h hp;generalize z8P c=G at *;cases G
 ·have e:R=2:=by rw[HR.out];simp
  subst e
  go_enter func124,ntmps124
  go_wp2_with (go_at_call 165;refine HGD.out.mono ?_;rintro e w1⟨rfl,hb1⟩)
  go_ret;exact⟨rfl,hb1⟩
 ·cases hon:c.on
  ·have e:R=4:=by rw[HR.out,hon];simp
   subst e
   go_enter func124,ntmps124
   go_wp2_with (go_at_call 165;refine HGD.out.mono ?_;rintro e w1⟨rfl,hb1⟩;clear l0;have a0:=(z0Z (HC.out.over hb1)).1.1;rw[hon]at a0)
   go_ret;exact⟨rfl,hb1⟩
  ·have e:R=0:=by rw[HR.out,hon];simp
   subst e
   go_enter func124,ntmps124
   go_wp2_with (go_at_call 165;refine HGD.out.mono ?_;rintro e w1⟨rfl,hb1⟩;clear l0;have a0:=(z0Z (HC.out.over hb1)).1.1;rw[hon]at a0)
   go_ret;exact⟨rfl,hb1⟩
theorem z5l(g:Nat)(c:Cs)(v:CsV)(now:Int)(P:Nat->Prop)(w:World)(h:CAt 63 w g (csC c v))(hp:CIn P w c v) :
  Calls prog 135 #[.pointer (some ⟨g,0,none⟩),.int .i64 now] w fun e w'=>e=.returned (.int .i64 (if isT now=true then z5p c else 2))/\Below w.heap.size w w':=by
 have HRF:=hide (z4F g c v P w h hp);generalize z5p c=R at *;have HTI:=hide (z7K now w);clear h hp;generalize isT now=T at *;cases T
 ·rw[if_neg (by simp)]
  go_enter func135,ntmps135
  go_wp2_with (go_at_call 125;refine HTI.out.mono ?_;rintro e w'⟨rfl,rfl⟩)
  go_ret;exact⟨rfl,Below.refl _ _⟩
 ·rw[if_pos rfl]
  go_enter func135,ntmps135
  go_wp2_with (first
   | (go_at_call 125;refine HTI.out.mono ?_;rintro e w'⟨rfl,rfl⟩)
   | (go_at_call 124;refine HRF.out.mono ?_;rintro e w1⟨rfl,hb1⟩))
  go_ret;exact⟨rfl,hb1⟩
end Kc
end Go.Proofs.YtmopekkhmhhcaaaGreat
