/- Parts of the proof. -/
import Derived.Test.YtmopekkhmhhcaaaGreatEL
import Derived.Test.YtmopekkhmhhcaaaGreatEK30
set_option maxRecDepth 100000
set_option maxHeartbeats 16000000
namespace Go.Proofs.YtmopekkhmhhcaaaGreat
open Go.Proofs.Tryz
section
open Go.RowKit
theorem j1U(g cap:Nat)(l:List Pw)(w:World)(h:z1M w g l)(hn:l.length<=12) :
  Calls prog 179 #[.slice (some ⟨g,0,none⟩) l.length cap,.int .i64 0,.int .i64 (l.length:Int),.func (.func 118) #[] #[]] w fun e w'=>e=.returned (.tuple #[])/\z1M w' g (z2t ltP l)/\z2R g w w':=by
 have HR0:=hide h;clear h
 go_enter func179,ntmps179
 go_wp2
 go_loopw [8] (fun i wl=>∃ m:Nat,i=.int .i64 ((m:Int)+1)/\(m+1<=l.length∨m=0)/\Hid (z1M wl g (z1k ltP l m)/\z2R g w wl)) (fun i _=>l.length - (intOf i).toNat)
 case atStart=>exact ⟨0,rfl,.inr rfl,HR0.out,z2R.refl _ _⟩
 case round =>
  obtain ⟨m,rfl,hm,HR⟩:=hrel
  by_cases hlt:m+1<l.length
  ·rename World=>wo
   have hlt':(m:Int)+1<(l.length:Int):=by omega
   go_wp2_with fail
   go_loopw [9] (fun j wl=>∃ (p:Nat) (l':List Pw),j=.int .i64 (p:Int)/\p<=m+1/\l'.length=l.length/\Hid (z7F ltP (m+1) (z1k ltP l m)=z7F ltP p l'/\z1M wl g l'/\z2R g w wl)) (fun j _=>(intOf j).toNat)
   case atStart=>exact ⟨m+1,z1k ltP l m,by go_num,Nat.le_refl _,z1N _ _ _,rfl,HR.out⟩
   case round =>
    obtain ⟨p,l',rfl,hp,hl',HI⟩:=hrel;have hsz:w.heap.size<=wr.heap.size:=HI.out.2.2.size;cases p with
    | zero =>
     have hg0:decide ((0:Int)<0)=false:=by decide
     go_upto_region 4 with fail
     go_quiet (fail);go_wp2;go_roundw
     case rel=>exact ⟨m+1,by go_num,.inl (by omega),(by rw[z1k,HI.out.1];exact HI.out.2.1),(show z2R g w (wr.drewN nq) from HI.out.2.2.drewN nq)⟩
     case measure=>simp[intOf];omega
    | succ p =>
     have hp1:p+1<l'.length:=by omega
     obtain ⟨c0,c1⟩:=HI.out.2.1.cell (i:=p+1) hp1;obtain ⟨d0,d1⟩:=HI.out.2.1.cell (i:=p) (by omega)
     have hC:=q1N (l'.getD (p+1) pz) (l'.getD p pz);have hgl:=HI.out.2.1.lt;have HI1:Hid (z7F ltP (m+1) (z1k ltP l m)=if ltP (l'.getD (p+1) pz) (l'.getD p pz)=true then z7F ltP p (swapAt l' p) else l'):=HI.out.1;have hlt2:Hid (ltP (l'.getD (p+1) pz) (l'.getD p pz)=decide (j5P (l'.getD (p+1) pz) (l'.getD p pz)<0)):=rfl;have HRow:=hide HI.out.2;clear HI;generalize j5P (l'.getD (p+1) pz) (l'.getD p pz)=r at *;generalize hA:l'.getD (p+1) pz=A at *;generalize hB:l'.getD p pz=B at *;have HA:=hide hA;have HB:=hide hB;clear hA hB;have hw1:IntKind.i64.wrap (((p+1:Nat):Int) - 1)=(p:Int):=by rw[show ((p+1:Nat):Int) - 1=(p:Int) by omega];exact z6V (by omega) (by omega)
     generalize hq:p+1=q at *;have HQ:=hide hq;clear hq;have hq0:(0:Int)<=(q:Int):=by omega
     have hq1:(q:Int)<(l.length:Int):=by omega
     have hp0:(0:Int)<=(p:Int):=by omega
     have hp2:(p:Int)<(l.length:Int):=by have:=HQ.out;omega
     have hg0:decide (0<q)=true:=by have:=HQ.out;simp;omega
     go_upto_region 4 with fail
     go_region_held3 (fun wx=>wx.cell? ⟨g,q * 2,none⟩=some (.int .i64 A.1)/\wx.cell? ⟨g,q * 2+1,none⟩=some (.int .i64 A.2)/\wx.cell? ⟨g,p * 2,none⟩=some (.int .i64 B.1)/\wx.cell? ⟨g,p * 2+1,none⟩=some (.int .i64 B.2)) (first | go_keep | (refine ⟨?_,?_,?_,?_⟩ <;> (rw[hbC.cell hgl];simp[*])))
      (first | (go_at_call 118;refine (hC _).mono ?_;rintro e w1 ⟨rfl,hbC⟩))
     rename_i hh;obtain ⟨c0',c1',d0',d1'⟩:=hh;have hR1:=HRow.out.1.later (w':=w1) (show Below wr.heap.size wr w1 from ((Below.refl _ wr).drew.trans hbC));have hB1:z2R g w w1:=HRow.out.2.trans (z2R.of_below (show Below wr.heap.size wr w1 from ((Below.refl _ wr).drew.trans hbC)));have HR1:=hide hR1;have HB1:=hide hB1;have f0:=hR1.free (q * 2);have f1:=hR1.free (q * 2+1);have f2:=hR1.free (p * 2);have f3:=hR1.free (p * 2+1);clear hR1 hB1 hbC c0 c1 d0 d1 HRow hC
     by_cases hr:r<0
     ·have hd:decide (r<0)=true:=by simpa using hr
      rw[hd];have hqp:=HQ.out;have n1:¬ p=q:=by omega
      have n2:¬ q=p:=by omega
      have n3:¬ p * 2=q * 2+1:=by omega
      have n4:¬ q * 2=p * 2+1:=by omega
      have n5:¬ p * 2+1=q * 2:=by omega
      have n6:¬ q * 2+1=p * 2:=by omega
      have n7:¬ p * 2=q * 2:=by omega
      have n8:¬ q * 2=p * 2:=by omega
      clear hqp
      go_upto_region 6 with fail
      go_region;have hsw:(l'.set q B).set p A=swapAt l' p:=by rw[swapAt,HQ.out,HA.out,HB.out]
      have HR2:Hid (z1M (((((w1.setCell ⟨g,q * 2,none⟩ (.int .i64 B.1)).setCell ⟨g,q * 2+1,none⟩ (.int .i64 B.2)).setCell ⟨g,p * 2,none⟩ (.int .i64 A.1)).setCell ⟨g,p * 2+1,none⟩ (.int .i64 A.2)).drew) g (swapAt l' p)):=by
       rw[← hsw];exact (HR1.out.put hp1 B).put (by simp;omega) A
      have HB2:Hid (z2R g w (((((w1.setCell ⟨g,q * 2,none⟩ (.int .i64 B.1)).setCell ⟨g,q * 2+1,none⟩ (.int .i64 B.2)).setCell ⟨g,p * 2,none⟩ (.int .i64 A.1)).setCell ⟨g,p * 2+1,none⟩ (.int .i64 A.2)).drew)):=((((HB1.out.set _ _).set _ _).set _ _).set _ _).drew;have HE:Hid (z7F ltP (m+1) (z1k ltP l m)=z7F ltP p (swapAt l' p)):=by rw[HI1.out,hlt2.out,hd];exact if_pos rfl
      clear hsw;generalize ((((w1.setCell ⟨g,q * 2,none⟩ (.int .i64 B.1)).setCell ⟨g,q * 2+1,none⟩ (.int .i64 B.2)).setCell ⟨g,p * 2,none⟩ (.int .i64 A.1)).setCell ⟨g,p * 2+1,none⟩ (.int .i64 A.2)).drew=w2 at *;go_wp2;go_roundw
      case rel=>exact ⟨p,swapAt l' p,rfl,by have:=HQ.out;omega,(by rw[z3b];exact hl'),HE.out,HR2.out,HB2.out⟩
      case measure=>have:=HQ.out;simp[intOf];omega
     ·have hd:decide (r<0)=false:=by simpa using hr
      rw[hd];have HE:Hid (z7F ltP (m+1) (z1k ltP l m)=l'):=by rw[HI1.out,hlt2.out,hd];exact if_neg (by simp)
      go_wp2;go_roundw
      case rel=>exact ⟨m+1,by go_num,.inl (by omega),(by rw[z1k,HE.out];exact HR1.out),HB1.out⟩
      case measure=>simp[intOf];omega
  ·have hE:z2t ltP l=z1k ltP l m:=by
    unfold z2t
    rcases hm with h | rfl
    ·rw[show l.length - 1=m by omega]
    ·rcases (show l.length=0∨l.length=1 by omega) with h | h <;> rw[h]
   have HE:=hide hE;clear hE;go_wp2;go_end0;exact ⟨rfl,by rw[HE.out];exact HR.out.1,HR.out.2⟩
theorem j8v(g cap:Nat)(lim:Int)(l:List Pw)(w:World)(h:z1M w g l)(hn:l.length<=12) :
  Calls prog 158 #[.slice (some ⟨g,0,none⟩) l.length cap,.int .i64 0,.int .i64 (l.length:Int),.int .i64 lim,.func (.func 118) #[] #[]] w fun e w'=>e=.returned (.tuple #[])/\z1M w' g (z2t ltP l)/\z2R g w w':=by
 have hI:=j1U g cap l w h hn;have hn':(l.length:Int)<=12:=by omega
 clear h
 go_enter func158,ntmps158
 go_wp2_with fail
 go_loopw [1,2] (fun a b wl=>a=.int .i64 0/\b=.int .i64 (l.length:Int)/\Hid (wl=w)) (fun _ _ _=>0)
 case atStart=>exact ⟨rfl,rfl,rfl⟩
 case round =>
  obtain ⟨rfl,rfl,HW⟩:=hrel;have e:=HW.out;subst e;clear HW
  go_wp2_with (go_at_call 179;refine hI.mono ?_;rintro e w1 ⟨rfl,h1⟩;have H1:=hide h1;clear h1)
  exact bodyPost_ret (v:=.tuple #[]) (by simp[results,results158]) rfl ⟨rfl,H1.out⟩
theorem q0m(n:Nat)(hn:n<=12)(w:World):Calls prog 159 #[.int .u64 (n:Int)] w fun e w'=>(∃ k,e=.returned (.int .i64 k))/\w=w':=by
 have hL:=Ra.j1v n (by omega)
 go_enter func159,ntmps159
 go_wp2_with (go_at_call 188;refine (hL _).mono ?_;rintro e w1 ⟨rfl,rfl⟩)
 go_ret;exact ⟨⟨_,rfl⟩,rfl⟩
theorem j5F(g cap:Nat)(l:List Pw)(w:World)(h:z1M w g l)(hn:l.length<=12) :
  Calls prog 117 #[.slice (some ⟨g,0,none⟩) l.length cap,.func (.func 118) #[] #[]] w fun e w'=>e=.returned (.tuple #[])/\z1M w' g (z2t ltP l)/\z2R g w w':=by
 have hP:=fun lim=>j8v g cap lim l w h hn;have hL:=q0m l.length hn w;clear h
 go_enter func117,ntmps117
 go_wp2_with (first
  | (go_at_call 159;refine hL.mono ?_;rintro e w1 ⟨⟨k,rfl⟩,rfl⟩)
  | (go_at_call 158;refine (hP _).mono ?_;rintro e w2 ⟨rfl,h1⟩;have H1:=hide h1;clear h1))
 go_end0;exact ⟨rfl,H1.out⟩
theorem j1R(g cap:Nat)(l:List Pw)(w:World)(h:z1M w g l)(hn:l.length<=12) :
  Calls prog 179 #[.slice (some ⟨g,0,none⟩) l.length cap,.int .i64 0,.int .i64 (l.length:Int),.func (.func 119) #[] #[]] w fun e w'=>e=.returned (.tuple #[])/\z1M w' g (z2t ltV l)/\z2R g w w':=by
 have HR0:=hide h;clear h
 go_enter func179,ntmps179
 go_wp2
 go_loopw [8] (fun i wl=>∃ m:Nat,i=.int .i64 ((m:Int)+1)/\(m+1<=l.length∨m=0)/\Hid (z1M wl g (z1k ltV l m)/\z2R g w wl)) (fun i _=>l.length - (intOf i).toNat)
 case atStart=>exact ⟨0,rfl,.inr rfl,HR0.out,z2R.refl _ _⟩
 case round =>
  obtain ⟨m,rfl,hm,HR⟩:=hrel
  by_cases hlt:m+1<l.length
  ·rename World=>wo
   have hlt':(m:Int)+1<(l.length:Int):=by omega
   go_wp2_with fail
   go_loopw [9] (fun j wl=>∃ (p:Nat) (l':List Pw),j=.int .i64 (p:Int)/\p<=m+1/\l'.length=l.length/\Hid (z7F ltV (m+1) (z1k ltV l m)=z7F ltV p l'/\z1M wl g l'/\z2R g w wl)) (fun j _=>(intOf j).toNat)
   case atStart=>exact ⟨m+1,z1k ltV l m,by go_num,Nat.le_refl _,z1N _ _ _,rfl,HR.out⟩
   case round =>
    obtain ⟨p,l',rfl,hp,hl',HI⟩:=hrel;have hsz:w.heap.size<=wr.heap.size:=HI.out.2.2.size;cases p with
    | zero =>
     have hg0:decide ((0:Int)<0)=false:=by decide
     go_upto_region 4 with fail
     go_quiet (fail);go_wp2;go_roundw
     case rel=>exact ⟨m+1,by go_num,.inl (by omega),(by rw[z1k,HI.out.1];exact HI.out.2.1),(show z2R g w (wr.drewN nq) from HI.out.2.2.drewN nq)⟩
     case measure=>simp[intOf];omega
    | succ p =>
     have hp1:p+1<l'.length:=by omega
     obtain ⟨c0,c1⟩:=HI.out.2.1.cell (i:=p+1) hp1;obtain ⟨d0,d1⟩:=HI.out.2.1.cell (i:=p) (by omega)
     have hC:=z6m (l'.getD (p+1) pz) (l'.getD p pz);have hgl:=HI.out.2.1.lt;have HI1:Hid (z7F ltV (m+1) (z1k ltV l m)=if ltV (l'.getD (p+1) pz) (l'.getD p pz)=true then z7F ltV p (swapAt l' p) else l'):=HI.out.1;have hlt2:Hid (ltV (l'.getD (p+1) pz) (l'.getD p pz)=decide (j1N (l'.getD (p+1) pz) (l'.getD p pz)<0)):=rfl;have HRow:=hide HI.out.2;clear HI;generalize j1N (l'.getD (p+1) pz) (l'.getD p pz)=r at *;generalize hA:l'.getD (p+1) pz=A at *;generalize hB:l'.getD p pz=B at *;have HA:=hide hA;have HB:=hide hB;clear hA hB;have hw1:IntKind.i64.wrap (((p+1:Nat):Int) - 1)=(p:Int):=by rw[show ((p+1:Nat):Int) - 1=(p:Int) by omega];exact z6V (by omega) (by omega)
     generalize hq:p+1=q at *;have HQ:=hide hq;clear hq;have hq0:(0:Int)<=(q:Int):=by omega
     have hq1:(q:Int)<(l.length:Int):=by omega
     have hp0:(0:Int)<=(p:Int):=by omega
     have hp2:(p:Int)<(l.length:Int):=by have:=HQ.out;omega
     have hg0:decide (0<q)=true:=by have:=HQ.out;simp;omega
     go_upto_region 4 with fail
     go_region_held3 (fun wx=>wx.cell? ⟨g,q * 2,none⟩=some (.int .i64 A.1)/\wx.cell? ⟨g,q * 2+1,none⟩=some (.int .i64 A.2)/\wx.cell? ⟨g,p * 2,none⟩=some (.int .i64 B.1)/\wx.cell? ⟨g,p * 2+1,none⟩=some (.int .i64 B.2)) (first | go_keep | (refine ⟨?_,?_,?_,?_⟩ <;> (rw[hbC.cell hgl];simp[*])))
      (first | (go_at_call 119;refine (hC _).mono ?_;rintro e w1 ⟨rfl,hbC⟩))
     rename_i hh;obtain ⟨c0',c1',d0',d1'⟩:=hh;have hR1:=HRow.out.1.later (w':=w1) (show Below wr.heap.size wr w1 from ((Below.refl _ wr).drew.trans hbC));have hB1:z2R g w w1:=HRow.out.2.trans (z2R.of_below (show Below wr.heap.size wr w1 from ((Below.refl _ wr).drew.trans hbC)));have HR1:=hide hR1;have HB1:=hide hB1;have f0:=hR1.free (q * 2);have f1:=hR1.free (q * 2+1);have f2:=hR1.free (p * 2);have f3:=hR1.free (p * 2+1);clear hR1 hB1 hbC c0 c1 d0 d1 HRow hC
     by_cases hr:r<0
     ·have hd:decide (r<0)=true:=by simpa using hr
      rw[hd];have hqp:=HQ.out;have n1:¬ p=q:=by omega
      have n2:¬ q=p:=by omega
      have n3:¬ p * 2=q * 2+1:=by omega
      have n4:¬ q * 2=p * 2+1:=by omega
      have n5:¬ p * 2+1=q * 2:=by omega
      have n6:¬ q * 2+1=p * 2:=by omega
      have n7:¬ p * 2=q * 2:=by omega
      have n8:¬ q * 2=p * 2:=by omega
      clear hqp
      go_upto_region 6 with fail
      go_region;have hsw:(l'.set q B).set p A=swapAt l' p:=by rw[swapAt,HQ.out,HA.out,HB.out]
      have HR2:Hid (z1M (((((w1.setCell ⟨g,q * 2,none⟩ (.int .i64 B.1)).setCell ⟨g,q * 2+1,none⟩ (.int .i64 B.2)).setCell ⟨g,p * 2,none⟩ (.int .i64 A.1)).setCell ⟨g,p * 2+1,none⟩ (.int .i64 A.2)).drew) g (swapAt l' p)):=by
       rw[← hsw];exact (HR1.out.put hp1 B).put (by simp;omega) A
      have HB2:Hid (z2R g w (((((w1.setCell ⟨g,q * 2,none⟩ (.int .i64 B.1)).setCell ⟨g,q * 2+1,none⟩ (.int .i64 B.2)).setCell ⟨g,p * 2,none⟩ (.int .i64 A.1)).setCell ⟨g,p * 2+1,none⟩ (.int .i64 A.2)).drew)):=((((HB1.out.set _ _).set _ _).set _ _).set _ _).drew;have HE:Hid (z7F ltV (m+1) (z1k ltV l m)=z7F ltV p (swapAt l' p)):=by rw[HI1.out,hlt2.out,hd];exact if_pos rfl
      clear hsw;generalize ((((w1.setCell ⟨g,q * 2,none⟩ (.int .i64 B.1)).setCell ⟨g,q * 2+1,none⟩ (.int .i64 B.2)).setCell ⟨g,p * 2,none⟩ (.int .i64 A.1)).setCell ⟨g,p * 2+1,none⟩ (.int .i64 A.2)).drew=w2 at *;go_wp2;go_roundw
      case rel=>exact ⟨p,swapAt l' p,rfl,by have:=HQ.out;omega,(by rw[z3b];exact hl'),HE.out,HR2.out,HB2.out⟩
      case measure=>have:=HQ.out;simp[intOf];omega
     ·have hd:decide (r<0)=false:=by simpa using hr
      rw[hd];have HE:Hid (z7F ltV (m+1) (z1k ltV l m)=l'):=by rw[HI1.out,hlt2.out,hd];exact if_neg (by simp)
      go_wp2;go_roundw
      case rel=>exact ⟨m+1,by go_num,.inl (by omega),(by rw[z1k,HE.out];exact HR1.out),HB1.out⟩
      case measure=>simp[intOf];omega
  ·have hE:z2t ltV l=z1k ltV l m:=by
    unfold z2t
    rcases hm with h | rfl
    ·rw[show l.length - 1=m by omega]
    ·rcases (show l.length=0∨l.length=1 by omega) with h | h <;> rw[h]
   have HE:=hide hE;clear hE;go_wp2;go_end0;exact ⟨rfl,by rw[HE.out];exact HR.out.1,HR.out.2⟩
theorem j8Q(g cap:Nat)(lim:Int)(l:List Pw)(w:World)(h:z1M w g l)(hn:l.length<=12) :
  Calls prog 158 #[.slice (some ⟨g,0,none⟩) l.length cap,.int .i64 0,.int .i64 (l.length:Int),.int .i64 lim,.func (.func 119) #[] #[]] w fun e w'=>e=.returned (.tuple #[])/\z1M w' g (z2t ltV l)/\z2R g w w':=by
 have hI:=j1R g cap l w h hn;have hn':(l.length:Int)<=12:=by omega
 clear h
 go_enter func158,ntmps158
 go_wp2_with fail
 go_loopw [1,2] (fun a b wl=>a=.int .i64 0/\b=.int .i64 (l.length:Int)/\Hid (wl=w)) (fun _ _ _=>0)
 case atStart=>exact ⟨rfl,rfl,rfl⟩
 case round =>
  obtain ⟨rfl,rfl,HW⟩:=hrel;have e:=HW.out;subst e;clear HW
  go_wp2_with (go_at_call 179;refine hI.mono ?_;rintro e w1 ⟨rfl,h1⟩;have H1:=hide h1;clear h1)
  exact bodyPost_ret (v:=.tuple #[]) (by simp[results,results158]) rfl ⟨rfl,H1.out⟩
theorem q7g(n:Nat)(hn:n<=12)(w:World):Calls prog 159 #[.int .u64 (n:Int)] w fun e w'=>(∃ k,e=.returned (.int .i64 k))/\w=w':=by
 have hL:=Ra.j1v n (by omega)
 go_enter func159,ntmps159
 go_wp2_with (go_at_call 188;refine (hL _).mono ?_;rintro e w1 ⟨rfl,rfl⟩)
 go_ret;exact ⟨⟨_,rfl⟩,rfl⟩
theorem q8B(g cap:Nat)(l:List Pw)(w:World)(h:z1M w g l)(hn:l.length<=12) :
  Calls prog 117 #[.slice (some ⟨g,0,none⟩) l.length cap,.func (.func 119) #[] #[]] w fun e w'=>e=.returned (.tuple #[])/\z1M w' g (z2t ltV l)/\z2R g w w':=by
 have hP:=fun lim=>j8Q g cap lim l w h hn;have hL:=q7g l.length hn w;clear h
 go_enter func117,ntmps117
 go_wp2_with (first
  | (go_at_call 159;refine hL.mono ?_;rintro e w1 ⟨⟨k,rfl⟩,rfl⟩)
  | (go_at_call 158;refine (hP _).mono ?_;rintro e w2 ⟨rfl,h1⟩;have H1:=hide h1;clear h1))
 go_end0;exact ⟨rfl,H1.out⟩
end
end Go.Proofs.YtmopekkhmhhcaaaGreat
