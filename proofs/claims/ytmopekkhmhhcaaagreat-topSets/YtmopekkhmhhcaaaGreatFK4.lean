/- Parts of the proof. -/
import Derived.Test.YtmopekkhmhhcaaaGreatFL
import Derived.Test.YtmopekkhmhhcaaaGreatFK15
set_option maxRecDepth 100000
set_option maxHeartbeats 16000000
namespace Go.Proofs.YtmopekkhmhhcaaaGreat
open Go.Proofs.Tryz
namespace Pv
open Go.RowKit
def j6O(w:World)(g o:Nat)(x:Lk)(u:LkV):Prop:=∀ j,j<14->w.cell? ⟨g,o+j,none⟩=(lkL x u)[j]?
theorem CAt.lk{w:World}{g:Nat}{p:Pr}{v:PrV}(h:CAt 57 w g (prC p v)){k:Nat}(hk:k<2):j6O w g (66+k * 14) (p.L k) (v.l k):=fun j hj=>(h.cell _).trans (z3I k hk j hj)
theorem j6O.over{w w':World}{g o:Nat}{x:Lk}{u:LkV}(h:j6O w g o x u)(hb:Below w.heap.size w w'):j6O w' g o x u:=fun j hj=>by
 have hlt:g<w.heap.size:=World.block_lt_of_cell? w ⟨g,o+0,none⟩ (h 0 (by omega))
 rw[hb.cell (p:=⟨g,o+j,none⟩) hlt];exact h j hj
theorem j6O.facts{w:World}{g o:Nat}{x:Lk}{u:LkV}(h:j6O w g o x u):w.cell? ⟨g,o,none⟩=some (.bool x.on)/\w.cell? ⟨g,o+1,none⟩=some (.bool x.gone)/\w.cell? ⟨g,o+2,none⟩=some (.int .i64 x.base)/\w.cell? ⟨g,o+3,none⟩=some u.told/\w.cell? ⟨g,o+4,none⟩=some (.bool x.fresh)/\w.cell? ⟨g,o+5,none⟩=some u.done/\(w.cell? ⟨g,o+6,none⟩=some u.said/\w.cell? ⟨g,o+6+1,none⟩=some u.due/\w.cell? ⟨g,o+6+2,none⟩=some (.int .i64 x.out.g)/\w.cell? ⟨g,o+6+3,none⟩=some (.bool x.out.cl)):=
 ⟨h 0 (by omega),h 1 (by omega),h 2 (by omega),h 3 (by omega),h 4 (by omega),h 5 (by omega),h 6 (by omega),h 7 (by omega),h 8 (by omega),h 9 (by omega)⟩
theorem j0H(g o:Nat)(x:Lk)(u:LkV)(h:Int)(P:Nat->Prop)(w:World)(hc:j6O w g o x u)(hl:z6c P w x u) :
  Calls prog 102 #[.pointer (some ⟨g,o,none⟩),.int .i64 h] w fun e w'=>e=.returned (.bool (z2w h x))/\Below w.heap.size w w':=by
 have hG:z2w h x=(z2g (-1) x.done && (!(x.on && x.gone) && decide (0<=x.base) && decide (x.base<=h) && z2N (-1) x.told && Ln.z0T x.out)):=rfl;generalize z2w h x=G at *;obtain⟨A1,C1,A2,C2,sb,so,db,dO,es,eu,hL,-,-⟩:=z0I.line hl.said hl.due;have hln:=fun (wx:World) (hb:Below w.heap.size w wx)=>Ln.z0o x.out A1 A2 C1 C2 sb so db dO wx (hL.later hb);rw[← es,← eu]at hln;have HLN:=hide hln;have HST:=hide (fun (wx:World) (hb:Below w.heap.size w wx)=>z9M x.told u.told P wx (hl.told.over hb));have HRI:=hide (fun (wx:World) (hb:Below w.heap.size w wx)=>q4P x.done u.done P wx (hl.done.over hb));have HC:=hide hc;obtain⟨c0,c1,c2,c3,c4,c5,c6,c7,c8,c9⟩:=hc.facts;clear hln es eu hL hl hc;have HG:=hide hG;clear hG;generalize z2N (-1) x.told=gt at *;generalize z2g (-1) x.done=gr at *;generalize Ln.z0T x.out=gl at *
 by_cases h1:(x.on && x.gone)=false/\0<=x.base/\x.base<=h
 ·obtain⟨q1,q2,q3⟩:=h1;have e:G=(gr && (gt && gl)):=by rw[HG.out,q1];simp[q2,q3]
  subst e;clear HG;have hcs:x.on=false∨(x.on=true/\x.gone=false):=by cases h:x.on <;> simp_all
  clear q1;generalize x.on=xo at *;generalize x.gone=xg at *;generalize x.base=xb at *
  rcases hcs with rfl | ⟨rfl,rfl⟩
  all_goals
   cases gt
   ·go_enter func102,ntmps102
    go_wp2_with (go_at_call 101;refine (HST.out _ (Below.refl _ _)).mono ?_;rintro e w6⟨rfl,hb6⟩)
    go_ret;exact⟨by cases gr <;> rfl,hb6⟩
   ·cases gr
    ·go_enter func102,ntmps102
     go_wp2_with (first
      | (go_at_call 101;refine (HST.out _ (Below.refl _ _)).mono ?_;rintro e w6⟨rfl,hb6⟩;clear c0 c1 c2 c3 c4 c5 c6 c7 c8 c9;obtain⟨c0,c1,c2,c3,c4,c5,c6,c7,c8,c9⟩:=(HC.out.over hb6).facts;have HB6:=hide hb6;clear hb6)
      | (go_at_call 144;refine (HRI.out _ HB6.out).mono ?_;rintro e w7⟨rfl,rfl⟩))
     go_ret;exact⟨rfl,HB6.out⟩
    ·go_enter func102,ntmps102
     go_wp2_with (first
      | (go_at_call 101;refine (HST.out _ (Below.refl _ _)).mono ?_;rintro e w6⟨rfl,hb6⟩;clear c0 c1 c2 c3 c4 c5 c6 c7 c8 c9;obtain⟨c0,c1,c2,c3,c4,c5,c6,c7,c8,c9⟩:=(HC.out.over hb6).facts;have HB6:=hide hb6;clear hb6)
      | (go_at_call 144;refine (HRI.out _ HB6.out).mono ?_;rintro e w7⟨rfl,rfl⟩)
      | (go_at_call 145;refine (HLN.out _ HB6.out).mono ?_;rintro e w8⟨rfl,hb8⟩;have HB8:=hide (zbt HB6.out hb8);clear hb8))
     go_ret;exact⟨rfl,HB8.out⟩
 ·have e:G=false:=by
   rw[HG.out]
   have:(!(x.on && x.gone) && decide (0<=x.base) && decide (x.base<=h))=false:=by
    rw[Bool.eq_false_iff];intro hh;simp only[Bool.and_eq_true,Bool.not_eq_true',decide_eq_true_eq]at hh;exact h1 ⟨hh.1.1,hh.1.2,hh.2⟩
   simp only[this,Bool.false_and,Bool.and_false]
  subst e;clear HG;generalize x.on=xo at *;generalize x.gone=xg at *;generalize x.base=xb at *
  have hcs:(xo=true/\xg=true)∨((xo=false∨(xo=true/\xg=false))/\(¬ 0<=xb∨(0<=xb/\¬ xb<=h))):=by
   cases xo <;> cases xg <;> simp_all <;> omega
  clear h1
  rcases hcs with⟨rfl,rfl⟩ | ⟨rfl | ⟨rfl,rfl⟩,q2 | ⟨q2,q3⟩⟩
  all_goals
   go_enter func102,ntmps102
   go_wp2;go_ret;exact⟨rfl,Below.refl _ _⟩
attribute [local go_sem ↓] z1K
set_option maxRecDepth 1000000 in
theorem z3m(p:Pr)(v:PrV)(P:Nat->Prop)(w:World)(hp:PIn P w p v) :
  Calls prog 74 #[.agg (prC p v)] w fun e w'=>e=.returned (.bool (z0x p))/\Below w.heap.size w w':=by
 have HG:=hide (j1g p);generalize z0x p=G at *;obtain⟨Aw,Cw,bw,ow,ews,Ws,-,-⟩:=hp.ws.q4n;have hgs:=fun (wx:World) (hb:Below w.heap.size w wx)=>z7J p.s Aw bw ow Cw wx (Ws.over hb);rw[← ews]at hgs;have HGS:=hide hgs;have HP:=hide hp;clear hp hgs ews Ws;obtain⟨cs,hcs⟩:∃ cs,prC p v=cs:=⟨_,rfl⟩;rw[hcs];have HCS:=hide hcs;clear hcs
 go_enter func74,ntmps74
 go_upto_region 1 with fail
 have C1:CAt 57 (w.alloc (.cells cs 57)) w.heap.size (prC p v):=by rw[HCS.out];exact CAt.new _ w cs
 have B1:Below w.heap.size w (w.alloc (.cells cs 57)):=znw w _;generalize w.alloc (.cells cs 57)=w1 at *;have HX:=hide (show _/\_ from⟨C1,B1⟩);obtain⟨⟨a0,a1,a2,a3,a4,a5⟩,a6⟩:=z3F C1;clear C1 B1 HCS;have hTI:Hid (isT p.t=(decide (0<=p.t) && decide (p.t<=1099511627776))):=rfl
 by_cases h1:z0i p.s=true/\0<=p.h/\p.h<=1099511627775/\(0<=p.t/\p.t<=1099511627776)/\z2N (-1) p.set=true
 ·obtain⟨q1,q2,q3,⟨q4,q5⟩,q6⟩:=h1;have HONE:=hide (show (z0i p.s && decide (0<=p.h) && decide (p.h<=1099511627775) && decide (0<=p.t) && decide (p.t<=1099511627776) && z2N (-1) p.set)=true by simp[q1,q2,q3,q4,q5,q6])
  have HST:=hide (fun wx hb=>z9M p.set v.set P wx (HP.out.set.over hb));have qt:isT p.t=true:=by rw[hTI.out];simp[q4,q5]
  rw[q1]at HGS;rw[q6]at HST;clear q1 q6
  go_upto_region 3 with (first
   | (go_at_call 100;refine (HGS.out _ HX.out.2).mono ?_;rintro e w2⟨rfl,hb2⟩;have HY:=hide (show _/\_ from⟨HX.out.1.over hb2,zbt HX.out.2 hb2⟩);clear a0 a1 a2 a3 a4 a5 a6 hb2;obtain⟨⟨a0,a1,a2,a3,a4,a5⟩,a6⟩:=z3F HY.out.1)
   | (go_at_call 76;refine (z3V _ _).mono ?_;rintro e w'⟨rfl,rfl⟩)
   | (go_at_call 101;refine (HST.out _ HY.out.2).mono ?_;rintro e w3⟨rfl,hb3⟩;have HZ:=hide (show _/\_ from⟨HY.out.1.over hb3,zbt HY.out.2 hb3⟩);clear a0 a1 a2 a3 a4 a5 a6 hb3))
  clear HGS HST HX HY
  go_upto_region 4 with fail
  go_loopw [32] (fun i wl=>∃ (k:Nat),k<=2/\i=.int .i64 (k:Int)/\Hid (Below w3.heap.size w3 wl)/\Hid (∀ c,c<k->z2w p.h (p.L c)=true)) (fun i _=>(2 - intOf i).toNat)
  case atStart=>exact⟨0,by omega,rfl,Below.refl _ _,fun c hc=>absurd hc (by omega)⟩
  case round =>
   obtain⟨k,hk,rfl,HB,HA⟩:=hrel
   by_cases hk2:k<2
   ·have hkk:(k:Int)<2:=by omega
    have hk0:(0:Int)<=(k:Int):=by omega
    have hBw:Below w.heap.size w wr:=zbt HZ.out.2 HB.out;have C5:=HZ.out.1.over HB.out;have a0:=(z3F C5).1.1;have hln:=fun (wx:World) (hb:Below wr.heap.size wr wx)=>j0H w.heap.size (66+k * 14) (p.L k) (v.l k) p.h P wx ((C5.over hb).lk hk2) ((HP.out.lk k hk2).keep fun b _ hlt=>(zbt hBw hb).block b hlt);have HLN:=hide hln;have HGk:=hide (fun h=>HG.out.lks k hk2 h);have HBw:=hide hBw;have hb0:=HB.out.size;clear hln C5 hBw
    go_upto_region 6 with fail
    generalize hgl:z2w p.h (p.L k)=gl at *;have HGL:=hide hgl;clear hgl;cases gl
    ·have e:=HGk.out rfl;subst e;clear HG HGk HP HZ HA HONE
     go_region_with (go_at_call 102;refine (HLN.out _ (by exact (Below.refl _ _).drew)).mono ?_;rintro e w5⟨rfl,hb5⟩)
     all_goals
      go_wp2;go_ret;exact⟨rfl,HBw.out.trans ((Below.refl _ _).drew.trans (hb5.mono HBw.out.size))⟩
    ·go_region_with (go_at_call 102;refine (HLN.out _ (by exact (Below.refl _ _).drew)).mono ?_;rintro e w5⟨rfl,hb5⟩)
     all_goals
      have HF:=hide (HB.out.trans ((Below.refl _ _).drew.trans (hb5.mono HB.out.size)))
      have HAk:Hid (∀ c,c<k+1->z2w p.h (p.L c)=true):=fun c hc=>by
       by_cases e:c=k
       ·subst e;exact HGL.out
       ·exact HA.out c (by omega)
      clear HA HLN HBw HB hb5;go_wp2
      first | exact⟨⟨k+1,by omega,by go_num,HF,HAk⟩,by simp[intOf];omega⟩ | ((repeat apply Exists.intro);exact⟨⟨k+1,by omega,by go_num,HF,HAk⟩,rfl⟩)
   ·obtain rfl:k=2:=by omega
    rename World=>w9
    have HY:=hide (show _/\_ from⟨HZ.out.1.over HB.out,zbt HZ.out.2 HB.out⟩);obtain⟨z,hzl,hzr,hzi⟩:=HP.out.q;obtain⟨Aq,Cq,eq,sq,-,cq,-⟩:=hzr.open (z2x _ _ hzl) (by decide)
    have a5:=(z3F HY.out.1).1.2.2.2.2.2;rw[eq]at a5;have HQ:=hide (show _/\_/\_ from⟨hzl,hzi,cq⟩);have hq63:p.q.length<=1800000000000:=by omega
    clear hzl hzi cq hzr eq sq HB HZ
    go_upto_region 10 with fail
    clear a5
    go_loopw [46] (fun i wl=>∃ (k:Nat),k<=p.q.length/\i=.int .i64 (k:Int)/\Hid (Below w9.heap.size w9 wl)/\Hid (∀ (i:Nat) (x:Int×Pkt),i<k->p.q[i]?=some x->z5T p.L x=true)) (fun i _=>p.q.length - (intOf i).toNat)
    case atStart=>exact⟨0,Nat.zero_le _,rfl,Below.refl _ _,fun i x hi=>absurd hi (by omega)⟩
    case round =>
     obtain⟨k,hk,rfl,HB,HN⟩:=hrel
     by_cases hlt:k<p.q.length
     ·have hkI:(k:Int)<(p.q.length:Int):=by omega
      obtain⟨x,hx⟩:∃ x,p.q[k]?=some x:=⟨_,List.getElem?_eq_getElem hlt⟩;obtain⟨y,hy⟩:∃ y,z[k]?=some y:=⟨_,List.getElem?_eq_getElem (by rw[HQ.out.1];exact hlt)⟩
      have hin:=HQ.out.2.1 k x y hx hy;obtain⟨y1,y2⟩:=y;obtain⟨⟨B1,n1,D1,ey1,-⟩,⟨B2,n2,D2,ey2,-⟩⟩:=id hin;dsimp only at ey1 ey2;subst ey1 ey2;have hBw:Below w.heap.size w wr:=zbt HY.out.2 HB.out;obtain⟨bq,oq,rfl,-,hbl,hcell⟩:=HQ.out.2.2 (by omega)
      have hc:∀ j,j<7->∀ u,(akL x (.slice B1 n1 D1,.slice B2 n2 D2))[j]?=some u->wr.cell? ⟨bq,oq+k * 7+j,none⟩=some u:=fun j hj u hu=>by
       rw[hBw.cell (p:=⟨bq,oq+k * 7+j,none⟩) hbl,Nat.add_assoc];exact hcell _ _ ((z6S p.q z k x _ j hx hy hj).trans hu)
      have e0:=hc 0 (by omega) _ rfl
      have e1:=hc 1 (by omega) _ rfl
      have e2:=hc 2 (by omega) _ rfl
      have e3:=hc 3 (by omega) _ rfl
      have e4:=hc 4 (by omega) _ rfl
      have e5:=hc 5 (by omega) _ rfl
      have e6:=hc 6 (by omega) _ rfl
      rw[Nat.add_zero]at e0;have HGq:=hide (fun h=>HG.out.qus k x hx h);have HXK:=hide hx;obtain⟨S1,T1,S2,T2,sb,so,db,dO,es,eu,hL⟩:=Rep.lies (hin.1.over hBw) (hin.2.over hBw);have hgp:=fun (wx:World) (hb:Below wr.heap.size wr wx)=>Cd.z0o x.2.k x.2.i x.2.v x.2.n x.2.S x.2.D S1 S2 T1 T2 sb so db dO wx hL.hls hL.hld hL.hsa hL.hda (hL.later hb).PS (hL.later hb).PD;rw[← es,← eu]at hgp;have HGP:=hide hgp;have C5:=HY.out.1.over HB.out;have HON:=hide (fun (wx:World) (hb:Below wr.heap.size wr wx)=>z6d w.heap.size p v x.1 wx (C5.over hb));have hglt:w.heap.size<wr.heap.size:=C5.lt;clear hc hcell hin hx hy es eu hL hgp C5;have hgq:z5T p.L x=(decide (0<=x.1) && decide (x.1<=1) && (p.L x.1.toNat).on && decide (x.2.k≠1) && decide (Cd.z0m x.2.k x.2.i x.2.v x.2.n x.2.S x.2.D=0)):=rfl
      have hio:z9A p x.1=(decide (0<=x.1) && decide (x.1<=1) && (p.L x.1.toNat).on):=by
       show (isC x.1 && _)=_
       unfold isC;rw[show (decide (x.1<2):Bool)=decide (x.1<=1) by simp only[decide_eq_decide];omega]
      rw[← hio]at hgq;generalize z9A p x.1=io at *;generalize Cd.z0m x.2.k x.2.i x.2.v x.2.n x.2.S x.2.D=gn at *;have HBn:=hide (show Below wr.heap.size wr (wr.alloc (.cells #[.int .i64 x.1,.int .i64 x.2.k,.int .i64 x.2.i,.int .i64 x.2.v,.int .i64 x.2.n,.slice B1 n1 D1,.slice B2 n2 D2] 85)) from znw wr _);have HBw:=hide (zbt hBw HBn.out);have HBk:=hide (zbt HB.out HBn.out);have HE:=HBw;have HF:=HBk;have HV:=hide hgq;clear hgq hio hBw
      by_cases hq:io=true/\x.2.k≠1/\gn=0
      ·obtain⟨rfl,q1,rfl⟩:=hq;have hgood:z5T p.L x=true:=by rw[HV.out];simp[q1]
       have HN2:Hid (∀ (i:Nat) (y:Int×Pkt),i<k+1->p.q[i]?=some y->z5T p.L y=true):=fun i y hi hy=>by
        by_cases e:i=k
        ·subst e;rw[HXK.out]at hy;cases hy;exact hgood
        ·exact HN.out i y (by omega) hy
       have hk1:(x.2.k == 1)=false:=by simpa using q1
       clear hgood HN HV HGq HG HQ HP HXK HA
       go_upto_region 14 with (first
        | (go_at_call 103;refine (HON.out _ (by exact HBn.out)).mono ?_;rintro e w6⟨rfl,rfl⟩)
        | (go_at_call 34;refine (HGP.out _ (by exact HBn.out)).mono ?_;rintro e w7⟨rfl,hb7⟩;have HE:=hide (zbt HBw.out hb7);have HF:=hide (zbt HBk.out hb7)))
       clear HE HBw HBk HBn HGP HON;go_wp2;go_roundw
       case rel=>(repeat apply Exists.intro);exact⟨⟨k+1,by omega,by go_num,HF,HN2⟩,rfl⟩
       case measure=>simp[intOf];omega
      ·have e:G=false:=HGq.out (by
        rw[HV.out,Bool.eq_false_iff];intro h;simp only[Bool.and_eq_true,decide_eq_true_eq]at h
        exact hq ⟨h.1.1,h.1.2,h.2⟩)
       subst e
       have hcs:io=false∨(io=true/\(x.2.k == 1)=true)∨(io=true/\(x.2.k == 1)=false/\(gn != 0)=true):=by
        cases io
        ·exact .inl rfl
        ·by_cases q1:x.2.k=1
         ·exact .inr (.inl ⟨rfl,by simpa using q1⟩)
         ·exact .inr (.inr ⟨rfl,by simpa using q1,by simp;intro q2;exact hq ⟨rfl,q1,q2⟩⟩)
       clear hq HV HGq HG HQ HP HXK HA HN
       rcases hcs with rfl | ⟨rfl,q1⟩ | ⟨rfl,q1,q2⟩
       all_goals
        go_wp2_with (first
         | (go_at_call 103;refine (HON.out _ (by exact HBn.out)).mono ?_;rintro e w6⟨rfl,rfl⟩)
         | (go_at_call 34;refine (HGP.out _ (by exact HBn.out)).mono ?_;rintro e w7⟨rfl,hb7⟩;have HE:=hide (zbt HBw.out hb7);have HF:=hide (zbt HBk.out hb7)))
        go_ret;exact⟨rfl,HE.out⟩
     ·obtain rfl:k=p.q.length:=by omega
      have e:G=true:=HG.out.all HONE.out HA.out (fun i x hx=>HN.out i x (List.getElem?_eq_some_iff.1 hx).1 hx);subst e;have HBz:=hide (zbt HY.out.2 HB.out);clear HG HQ HP HY HA HN HB HONE;go_wp2;go_ret;exact⟨rfl,HBz.out⟩
 ·have e:=HG.out.one (by
   rw[Bool.eq_false_iff];intro h;simp only[Bool.and_eq_true,decide_eq_true_eq]at h
   exact h1 ⟨h.1.1.1.1.1,h.1.1.1.1.2,h.1.1.1.2,⟨h.1.1.2,h.1.2⟩,h.2⟩)
  subst e;have HST:=hide (fun wx hb=>z9M p.set v.set P wx (HP.out.set.over hb));generalize z0i p.s=gs at *;generalize z2N (-1) p.set=gt at *
  have hcs:gs=false∨(gs=true/\¬ 0<=p.h)∨(gs=true/\0<=p.h/\¬ p.h<=1099511627775)∨(gs=true/\0<=p.h/\p.h<=1099511627775/\isT p.t=false)∨(gs=true/\0<=p.h/\p.h<=1099511627775/\isT p.t=true/\gt=false):=by
   rw[hTI.out];cases gs
   ·exact .inl rfl
   ·by_cases q2:0<=p.h <;> by_cases q3:p.h<=1099511627775 <;> by_cases q4:0<=p.t <;> by_cases q5:p.t<=1099511627776 <;> cases gt <;> simp_all
  clear h1 HG hTI
  rcases hcs with rfl | ⟨rfl,h2⟩ | ⟨rfl,h2,h3⟩ | ⟨rfl,h2,h3,h4⟩ | ⟨rfl,h2,h3,h4,rfl⟩
  all_goals
   go_wp2_with (first
    | (go_at_call 100;refine (HGS.out _ HX.out.2).mono ?_;rintro e w2⟨rfl,hb2⟩;have HY:=hide (show _/\_ from⟨HX.out.1.over hb2,zbt HX.out.2 hb2⟩);clear a0 a1 a2 a3 a4 a5 a6 hb2;obtain⟨⟨a0,a1,a2,a3,a4,a5⟩,a6⟩:=z3F HY.out.1;have HE:=hide HY.out.2)
    | (go_at_call 76;refine (z3V _ _).mono ?_;rintro e w'⟨rfl,rfl⟩)
    | (go_at_call 101;refine (HST.out _ HY.out.2).mono ?_;rintro e w3⟨rfl,hb3⟩;have HE:=hide (zbt HY.out.2 hb3)))
   go_ret;exact⟨rfl,HE.out⟩
end Pv
end Go.Proofs.YtmopekkhmhhcaaaGreat
