/- Parts of the proof. -/
import Derived.Test.YtmopekkhmhhcaaaGreatEL
import Derived.Test.YtmopekkhmhhcaaaGreatEK26
import Derived.Test.YtmopekkhmhhcaaaGreatEK30
set_option maxRecDepth 100000
set_option maxHeartbeats 16000000
namespace Go.Proofs.YtmopekkhmhhcaaaGreat
open Go.Proofs.Tryz
namespace Wd
open Go.RowKit Pv Kc
structure j8d(P:Nat->Prop)(w0:World)(rp:Pr)(n:Nat)(gn:Nat)(ts:Array Value)(up:Value)(w:World):Prop where
 ex:∃ u,ts=prC rp u/\PIn (fun b=>New P w0 0 b/\b≠gn) w rp u
 sl:∃ A C,up=.slice A n C
 cat:CAt 57 w gn ts
 bel:Below w0.heap.size w0 w
 le:w0.heap.size<=gn
theorem j1E{P Q:Nat->Prop}{w0 wx w3:World}{rp:Pr}{u:PrV}{up:Value}{l:List Int}{k:Nat}(h:PIn (New (fun b=>P b/\b<w0.heap.size) wx k) w3 rp u)(hup:Rep Q w3 up 1 8 (inC l))(hx:wx.heap.size=w0.heap.size)(hb:Below w0.heap.size w0 w3):j8d P w0 rp l.length w3.heap.size (prC rp u) up ((w3.alloc (.cells zeroCells57 57)).setCells w3.heap.size 0 (prC rp u).toList):=by
 have bS:Below w3.heap.size w3 ((w3.alloc (.cells zeroCells57 57)).setCells w3.heap.size 0 (prC rp u).toList):=z0a (Nat.le_refl _) _ _ _ (znw w3 _);obtain ⟨A,C,e,-⟩:=row_of hup (z0p l) (by decide)
 refine ⟨⟨u,rfl,?_⟩,⟨A,C,e⟩,(CAt.new 57 w3 zeroCells57).z0s (by rw[z0d];rfl),zbt hb bS,hb.size⟩
 refine ((h.mono (P':=fun b=>New P w0 0 b/\b≠w3.heap.size) fun b hl hp=>⟨?_,by omega⟩).over bS)
 rcases hp with ⟨hp,_⟩ | hp
 ·exact .inl hp
 ·exact .inr (by omega)
theorem j1f{P Q:Nat->Prop}{w0 wx w3:World}{rp:Pr}{u:PrV}{up:Value}{l:List Int}{k:Nat}(h:PIn (New (fun b=>P b/\b<w0.heap.size) wx k) w3 rp u)(hup:Rep Q w3 up 1 8 (inC l))(hx:wx.heap.size=w0.heap.size+1)(hb:Below w0.heap.size w0 w3)(hc:CAt 57 w3 w0.heap.size zeroCells57):j8d P w0 rp l.length w0.heap.size (prC rp u) up (w3.setCells w0.heap.size 0 (prC rp u).toList):=by
 obtain ⟨A,C,e,-⟩:=row_of hup (z0p l) (by decide)
 refine ⟨⟨u,rfl,?_⟩,⟨A,C,e⟩,hc.z0s (by rw[z0d];rfl),z0a (Nat.le_refl _) _ _ _ hb,Nat.le_refl _⟩
 have h':PIn (fun b=>New P w0 0 b/\b≠w0.heap.size) w3 rp u:=h.mono fun b _ hp=>by
  rcases hp with ⟨hp,_⟩ | hp
  ·exact ⟨.inl hp,by omega⟩
  ·exact ⟨.inr (by omega),by omega⟩
 exact h'.sets (fun e=>e.2 rfl) _ _
theorem q8q{w:World}{g:Nat}{x:Wo}{v:WoV}(h:CAt 98 w g (wdC x v)){i:Nat}(hi:i<2):w.cell? ⟨g,99+i * 22+14+2,none⟩=some (.int .i64 (x.c i).out.g):=by
 rw[h.cell]
 match i,hi with
 | 0,_=>rfl
 | 1,_=>rfl
theorem q6l{w:World}{g:Nat}{p:Pr}{u:PrV}(h:CAt 57 w g (prC p u)){i:Nat}(hi:i<2):w.cell? ⟨g,66+i * 14+6,none⟩=some (u.l i).said:=(h.lk hi).facts.2.2.2.2.2.2.1
structure PLp(P:Nat->Prop)(w:World)(g gn:Nat)(x:Wo)(rp:Pr)(u:PrV)(k:Nat)(wl:World):Prop where
 ex:∃ hp',(∀ j,j<k->hp' j=z4X rp x.c j)/\z0W P w g { x with p:=rp,hp:=hp' } wl
 cat:CAt 57 wl gn (prC rp u)
attribute [local go_sem ↓] z0F z0v z5S
theorem q1k(g:Nat)(x:Wo)(v:WoV)(P:Nat->Prop)(w:World)(hC:CAt 98 w g (wdC x v))(hI:WIn P w x v)(hg:¬ P g)(hq88:x.p.q.length * 88<=140737488351232) :
  Calls prog 58 #[.pointer (some ⟨g,0,none⟩)] w (z9z P w g (z7x x)):=by
 have hD:z7x x=if (endP x.p x.ck).2.2=0 then ({ x with p:=(endP x.p x.ck).1,hp:=z4X (endP x.p x.ck).1 x.c },((endP x.p x.ck).2.1.length:Int),0) else (x,0,(endP x.p x.ck).2.2):=by unfold z7x;rfl
 have hlt:=hC.lt;have HEN:=hide (fun (wx:World) (hb:Below w.heap.size w wx)=>j2h x.p v.p (fun b=>P b/\b<w.heap.size) wx x.ck ((hI.p.mono (P':=fun b=>P b/\b<w.heap.size) fun b hl hp=>⟨hp,hl⟩).over hb) (by omega))
 have HLF:=hide (fun (wx:World) (hb:Below w.heap.size w wx)=>(show (z6I (.pointer (some ⟨g,2,none⟩))).run prog wx=.ok (.agg (prC x.p v.p)) wx/\wx.cell? ⟨g,0,none⟩=some (.int .i64 x.ck) from ⟨j0t ((z7Z x v x.p v.p).part (hC.over hb)) (z0b _ _),(hC.over hb).cell 0⟩));generalize z7x x=D at *;generalize endP x.p x.ck=r at *;obtain ⟨rp,pl,re⟩:=r;dsimp only at hD;have HD:=hide hD;have HC:=hide hC;have HI:=hide hI;clear hD hC hI hq88;generalize Value.agg (prC x.p v.p)=V0 at HEN HLF;have HALd:Hid (Below w.heap.size w (w.alloc (.cells zeroCells57 57)).drew):=(znw w _).drew;have HACd:Hid (CAt 57 (w.alloc (.cells zeroCells57 57)).drew w.heap.size zeroCells57):=CAt.new 57 w zeroCells57
 go_enter func58,ntmps58
 go_upto_region 1 with fail
 apply j5R (fun (gn:Nat) (ts:Array Value) (up:Value) w'=>j8d P w rp pl.length gn ts up w')
 ·skip;refine wp_region_noPanic ?_;refine wp_region_held_drew (S:=fun wx=>Below w.heap.size w wx) (by kernel_rfl) (Below.refl _ _).drew (fun hS=>?_)
  refine Od.G 0 (.pointer (some ⟨g,0,none⟩)) 9 rfl rfl hS ?_;refine Od.G 1 (.pointer (some ⟨g,0,none⟩)) 10 rfl rfl hS ?_;refine Od.G 2 (.pointer (some ⟨g,2,none⟩)) 11 rfl rfl hS ?_;refine Od.Z 3 V0 12 rfl rfl hS (fun wx hSw=>by obtain ⟨l1,l2⟩:=HLF.out wx hSw;go_simp) ?_
  refine Od.G 4 (.pointer (some ⟨g,0,none⟩)) 13 rfl rfl hS ?_;refine Od.G 5 (.pointer (some ⟨g,0,none⟩)) 14 rfl rfl hS ?_;refine Od.G 6 (.pointer (some ⟨g,0,none⟩)) 15 rfl rfl hS ?_;refine Od.Z 7 (.int .i64 x.ck) 16 rfl rfl hS (fun wx hSw=>by obtain ⟨l1,l2⟩:=HLF.out wx hSw;go_simp) ?_
  refine Od.z3g (i:=8) (j:=13) (by kernel_rfl) rfl rfl rfl rfl (fun K hK=>?_) (fun K hK=>?_)
  ·go_simp
   go_at_call 66
   refine (HEN.out _ (by with_reducible exact (Below.refl w.heap.size w).drew)).mono ?_
   rintro e w3 ⟨u3,up,rfl,U3,Up,hb3⟩;dsimp only at U3 Up;have hb:=(Below.refl w.heap.size w).drew.trans (hb3.mono (Below.refl w.heap.size w).drew.size);obtain ⟨ts,hts⟩:∃ y:Array Value,y=prC rp u3:=⟨_,rfl⟩;dsimp only;rw[← hts];have HT:=hide hts;clear hts;refine hK _ _ hb ?_;clear hK K;refine Od.Z 9 (.tuple #[.agg ts,up,(.int .i64 re)]) 8 rfl rfl hb (fun wx hSw=>?_) ?_
   ·go_simp
   refine Od.Z 10 (.agg ts) 18 rfl rfl hb (fun wx hSw=>?_) ?_
   ·go_simp
   refine Od.Z 11 up 19 rfl rfl hb (fun wx hSw=>?_) ?_
   ·go_simp
   refine Od.Z 12 (.int .i64 re) 20 rfl rfl hb (fun wx hSw=>?_) ?_
   ·go_simp
   refine Od.z0Q (i:=13) (by kernel_rfl) rfl rfl (fun K hK=>?_)
   go_simp;refine hK _ _ (hb.alloc hb.size _) ?_;clear hK K;have q2:ts.all (fun x=>x.oneCell')=true:=by rw[HT.out];exact z0V U3
   have HST:=j1E U3 Up (by rfl) hb
   rw[← HT.out]at HST;change wpAnyH _ _ _ _ _ _ _ _ (w3.alloc (.cells zeroCells57 57));refine Od.z0n (i:=14) (by kernel_rfl) rfl rfl 57 _ _ rfl rfl w3.heap.size 0 ts rfl rfl ((CAt.new 57 w3 zeroCells57).there 0 _ (by rw[HT.out];exact Nat.le_of_eq rfl)) (by rw[HT.out,z2W];rfl) q2 HST.bel ?_
   refine Od.Z 15 up 5 rfl rfl HST.bel (fun wx hSw=>?_) ?_
   ·go_simp
   refine Od.Z 16 (.int .i64 re) 6 rfl rfl HST.bel (fun wx hSw=>?_) ?_
   ·go_simp
   refine wpAnyH_done (by kernel_rfl) ?_ _
   obtain ⟨gn,hgn⟩:∃ y,y=w3.heap.size:=⟨_,rfl⟩;rw[← hgn]at HST ⊢;simp only[Od.pp,Od.pb,Od.pc];exact NoPanic.normal ⟨gn,ts,up,rfl,rfl,HST⟩
  ·go_simp;refine hK _ _ (hS.alloc hS.size _) ?_;clear hK K;refine Od.z0Q (i:=8) (by kernel_rfl) rfl rfl (fun K hK=>?_)
   go_simp
   go_at_call 66
   refine (HEN.out _ (by with_reducible exact HALd.out)).mono ?_
   rintro e w3 ⟨u3,up,rfl,U3,Up,hb3⟩;dsimp only at U3 Up;have hb:=zbt HALd.out hb3;obtain ⟨ts,hts⟩:∃ y:Array Value,y=prC rp u3:=⟨_,rfl⟩;dsimp only;rw[← hts];have HT:=hide hts;clear hts;refine hK _ _ hb ?_;clear hK K;refine Od.Z 9 (.tuple #[.agg ts,up,(.int .i64 re)]) 8 rfl rfl hb (fun wx hSw=>?_) ?_
   ·go_simp
   refine Od.Z 10 (.agg ts) 18 rfl rfl hb (fun wx hSw=>?_) ?_
   ·go_simp
   refine Od.Z 11 up 19 rfl rfl hb (fun wx hSw=>?_) ?_
   ·go_simp
   refine Od.Z 12 (.int .i64 re) 20 rfl rfl hb (fun wx hSw=>?_) ?_
   ·go_simp
   have q2:ts.all (fun x=>x.oneCell')=true:=by rw[HT.out];exact z0V U3
   have R3:=HACd.out.over hb3;have HST:=j1f U3 Up (by simp) hb R3
   rw[← HT.out]at HST;refine Od.z0n (i:=14) (by kernel_rfl) rfl rfl 57 _ _ rfl rfl w.heap.size 0 ts rfl rfl (R3.there 0 _ (by rw[HT.out];exact Nat.le_of_eq rfl)) (by rw[HT.out,z2W];rfl) q2 HST.bel ?_
   refine Od.Z 15 up 5 rfl rfl HST.bel (fun wx hSw=>?_) ?_
   ·go_simp
   refine Od.Z 16 (.int .i64 re) 6 rfl rfl HST.bel (fun wx hSw=>?_) ?_
   ·go_simp
   refine wpAnyH_done (by kernel_rfl) ?_ _
   obtain ⟨gn,hgn⟩:∃ y,y=w.heap.size:=⟨_,rfl⟩;rw[← hgn]at HST ⊢;simp only[Od.pp,Od.pb,Od.pc];exact NoPanic.normal ⟨gn,ts,up,rfl,rfl,HST⟩
 rintro gn ts up w5 S5;obtain ⟨Au,Du,rfl⟩:=S5.sl;have HS5:=hide S5;have hle:=S5.le;have hlt5:=S5.cat.lt;clear S5 HLF HEN HALd HACd;have hgg:g≠gn:=by omega
 simp only[Exit.then];apply_assumption
 by_cases hE:re=0
 case neg =>
  replace HD:=hide (HD.out.trans (if_neg hE));have hE':(re != 0)=true:=by simpa using hE
  go_wp2;go_ret2;rw[HD.out];exact ⟨rfl,.same (HC.out.over HS5.out.bel) HI.out hg (Alt.of HS5.out.bel)⟩
 subst hE;replace HD:=hide (HD.out.trans (if_pos rfl));obtain ⟨u,hu1,hu2⟩:=HS5.out.ex;have hts:ts.size=97:=by rw[hu1];rfl
 have l5:=z0i HS5.out.cat hts;have s5:=j6k ((z7Z x v rp u).there (HC.out.over HS5.out.bel)) (z0b _ _) (z0V hu2);have Z6:=z9Y HI.out hg (Below.refl _ w) HC.out hlt HS5.out.bel (hu2.mono (P':=New P w 0) fun b _ hb=>hb.1);have D6:=HS5.out.cat.others (c:=g) (o:=2) (by omega) (prC rp u).toList
 have hsaid:=fun i hi=>z4W (hu2.lk i hi).said (z1L _) (by decide)
 have HSD:=hide hsaid;have HR0:Hid (PLp P w g gn x rp u 0 (w5.setCells g 2 (prC rp u).toList)):=⟨⟨x.hp,fun j hj=>by omega,Z6⟩,by rw[hu1]at D6;exact D6⟩
 rw[← hu1]at s5 HR0;have HU1:=hide hu1;clear hu1;clear Z6 D6 hsaid hu2 hts;generalize w5.setCells g 2 ts.toList=w6 at *
 go_upto_region 6 with fail
 clear l5 s5
 go_loopw [28] (fun i wl=>∃ (k:Nat),k<=2/\i=.int .i64 (k:Int)/\Hid (PLp P w g gn x rp u k wl)) (fun i _=>2 - (intOf i).toNat)
 case atStart=>exact ⟨0,by omega,rfl,HR0⟩
 case round =>
  obtain ⟨k,hk,rfl,HR⟩:=hrel;clear HR0
  by_cases hltk:k<2
  ·have hk2:(k:Int)<2:=by omega
   have hk0:(0:Int)<=(k:Int):=by omega
   obtain ⟨hp',hp1,v6,C6,I6,A6⟩:=HR.out.ex;obtain ⟨As,Ds,es,-,-⟩:=HSD.out k hltk;have D6:=HR.out.cat;have hlt6:=C6.lt;have hlt6n:=D6.lt;have hdr:=(Below.refl wr.heap.size wr).drew
   have HS6:wr.drew.cell? ⟨gn,0,none⟩=some (.int .i64 rp.h)/\wr.drew.cell? ⟨gn,1,none⟩=some (.int .i64 rp.t)/\wr.drew.cell? ⟨gn,66+k * 14+6,none⟩=some (.slice As (rp.L k).out.S.length Ds)/\wr.drew.cell? ⟨g,99+k * 22+14+2,none⟩=some (.int .i64 (x.c k).out.g):=
    ⟨(D6.over hdr).cell 0,(D6.over hdr).cell 1,by rw[← es];exact q6l (D6.over hdr) hltk,q8q (C6.over hdr) hltk⟩
   have hA7:=j6f { x with p:=rp,hp:=hp' } v6 hltk (z4X rp x.c k)
   have HA7:=hide hA7;have D7:=(D6.over hdr).others (c:=g) (o:=143+k * 8) (by omega) (hdL (z4X rp x.c k))
   have C7:=hA7.sets (C6.over hdr)
   have HS7:Hid ((wr.drew.setCells g (143+k * 8) (hdL (z4X rp x.c k))).cell? ⟨gn,0,none⟩=some (.int .i64 rp.h)/\(wr.drew.setCells g (143+k * 8) (hdL (z4X rp x.c k))).cell? ⟨gn,1,none⟩=some (.int .i64 rp.t)/\(wr.drew.setCells g (143+k * 8) (hdL (z4X rp x.c k))).cell? ⟨gn,66+k * 14+6,none⟩=some (.slice As (rp.L k).out.S.length Ds)/\(wr.drew.setCells g (143+k * 8) (hdL (z4X rp x.c k))).cell? ⟨g,99+k * 22+14+2,none⟩=some (.int .i64 (x.c k).out.g)):=
    ⟨D7.cell 0,D7.cell 1,by rw[← es];exact q6l D7 hltk,q8q C7 hltk⟩
   have hng:¬ New P w 0 g:=Pv.z0K hg hlt;have Z7:=j5n (I6.over hdr) hng (C6.over hdr) hA7 rfl rfl
   have HR1:Hid (PLp P w g gn x rp u (k+1) (wr.drew.setCells g (143+k * 8) (hdL (z4X rp x.c k)))):=by
    refine ⟨⟨q5Z hp' k (z4X rp x.c k),fun j hj=>?_,z0W.trans A6 (z0W.trans (Alt.of (g:=g) hdr) (Z7.q2U hng))⟩,D7⟩;unfold q5Z
    by_cases e:j=k
    ·rw[if_pos e,e]
    ·rw[if_neg e];exact hp1 j (by omega)
   have HX:=hide (show _/\_ from ⟨C6,I6⟩);clear C6 I6 A6 D6 D7 C7 Z7 hA7 hdr es hp1
   go_upto_region 8 with fail
   refine wp_region_held_drew (S:=fun wx=>wx.cell? ⟨gn,0,none⟩=some (.int .i64 rp.h)/\wx.cell? ⟨gn,1,none⟩=some (.int .i64 rp.t)/\wx.cell? ⟨gn,66+k * 14+6,none⟩=some (.slice As (rp.L k).out.S.length Ds)/\wx.cell? ⟨g,99+k * 22+14+2,none⟩=some (.int .i64 (x.c k).out.g)) (by kernel_rfl) HS6 (fun hS=>?_)
   refine Od.G 0 (.pointer (some ⟨g,0,none⟩)) 31 rfl rfl hS ?_;refine Od.G 1 (.int .i64 (k:Int)) 32 rfl rfl hS ?_;refine Od.G 2 (.pointer (some ⟨gn,0,none⟩)) 33 rfl rfl hS ?_;refine Od.Z 3 (.int .i64 rp.h) 34 rfl rfl hS (fun wx hSw=>by obtain ⟨l1,l2,l3,l4⟩:=hSw;go_simp) ?_
   refine Od.G 4 (.pointer (some ⟨gn,1,none⟩)) 35 rfl rfl hS ?_;refine Od.Z 5 (.int .i64 rp.t) 36 rfl rfl hS (fun wx hSw=>by obtain ⟨l1,l2,l3,l4⟩:=hSw;go_simp) ?_
   refine Od.G 6 (.int .i64 (k:Int)) 37 rfl rfl hS ?_;refine Od.G 7 (.pointer (some ⟨gn,66,none⟩)) 38 rfl rfl hS ?_;refine Od.G 8 (.pointer (some ⟨gn,66+k * 14,none⟩)) 39 rfl rfl hS ?_;refine Od.G 9 (.pointer (some ⟨gn,66+k * 14+6,none⟩)) 40 rfl rfl hS ?_;refine Od.G 10 (.pointer (some ⟨gn,66+k * 14+6,none⟩)) 41 rfl rfl hS ?_;refine Od.Z 11 (.slice As (rp.L k).out.S.length Ds) 42 rfl rfl hS (fun wx hSw=>by obtain ⟨l1,l2,l3,l4⟩:=hSw;go_simp) ?_
   refine Od.G 12 (.int .i64 ((rp.L k).out.S.length:Int)) 43 rfl rfl hS ?_;refine Od.G 13 (.pointer (some ⟨g,0,none⟩)) 44 rfl rfl hS ?_;refine Od.G 14 (.int .i64 (k:Int)) 45 rfl rfl hS ?_;refine Od.G 15 (.pointer (some ⟨g,0,none⟩)) 46 rfl rfl hS ?_;refine Od.G 16 (.pointer (some ⟨g,99,none⟩)) 47 rfl rfl hS ?_;refine Od.G 17 (.pointer (some ⟨g,99+k * 22,none⟩)) 48 rfl rfl hS ?_;refine Od.G 18 (.pointer (some ⟨g,99+k * 22+14,none⟩)) 49 rfl rfl hS ?_;refine Od.G 19 (.pointer (some ⟨g,99+k * 22+14+2,none⟩)) 50 rfl rfl hS ?_;refine Od.Z 20 (.int .i64 (x.c k).out.g) 51 rfl rfl hS (fun wx hSw=>by obtain ⟨l1,l2,l3,l4⟩:=hSw;go_simp) ?_
   refine Od.G 21 (.agg #[.int .i64 rp.h,.int .i64 rp.t,.int .i64 ((rp.L k).out.S.length:Int),.int .i64 (x.c k).out.g]) 52 rfl rfl hS ?_;refine Od.G 22 (.pointer (some ⟨g,0,none⟩)) 53 rfl rfl hS ?_;refine Od.G 23 (.pointer (some ⟨g,143,none⟩)) 54 rfl rfl hS ?_;refine Od.G 24 (.pointer (some ⟨g,143+k * 8,none⟩)) 55 rfl rfl hS ?_;refine Od.G 25 (.pointer (some ⟨g,143+k * 8,none⟩)) 56 rfl rfl hS ?_;have q1:(Option.map (fun x=>x.size) (prog.info? 49))=some (#[.int .i64 rp.h,.int .i64 rp.t,.int .i64 ((rp.L k).out.S.length:Int),.int .i64 (x.c k).out.g]:Array Value).size:=by rw[q3k];rfl
   have q2:(#[.int .i64 rp.h,.int .i64 rp.t,.int .i64 ((rp.L k).out.S.length:Int),.int .i64 (x.c k).out.g]:Array Value).all (fun x=>x.oneCell')=true:=by simp[Value.oneCell']
   have q3:wr.drew.there g (143+k * 8) (#[.int .i64 rp.h,.int .i64 rp.t,.int .i64 ((rp.L k).out.S.length:Int),.int .i64 (x.c k).out.g]:Array Value).size:=HA7.out.there (HX.out.1.over (Below.refl wr.heap.size wr).drew);simp only[Od.pp,Od.pb,Od.pc];refine Od.z0n (i:=26) (by kernel_rfl) rfl rfl 49 _ _ rfl rfl g (143+k * 8) #[.int .i64 rp.h,.int .i64 rp.t,.int .i64 ((rp.L k).out.S.length:Int),.int .i64 (x.c k).out.g] rfl rfl q3 q1 q2 HS7.out ?_
   refine wpAnyH_done (by kernel_rfl) ?_ _
   change Exit.inBlock _ _ _ _ (wr.drew.setCells g (143+k * 8) (hdL (z4X rp x.c k)));clear q1 q2 q3 hS HS6 HS7 HX HA7;generalize wr.drew.setCells g (143+k * 8) (hdL (z4X rp x.c k))=w7 at *;go_simp;go_wp2;exact ⟨⟨k+1,by omega,by go_num,HR1⟩,by simp[intOf];omega⟩
  ·obtain rfl:k=2:=by omega
   obtain ⟨hp',hp1,v6,C6,I6,A6⟩:=HR.out.ex
   have e:wdC { x with p:=rp,hp:=hp' } v6=wdC { x with p:=rp,hp:=z4X rp x.c } v6:=by
    unfold wdC;dsimp only;rw[hp1 0 (by omega),hp1 1 (by omega)]
   rw[e]at C6;have HZ:Hid (z0W P w g { x with p:=rp,hp:=z4X rp x.c } wr):=⟨v6,C6,⟨I6.p,I6.c⟩,A6⟩
   clear C6 I6 A6 e HR hp1;go_wp2;go_ret2;rw[HD.out];exact ⟨rfl,HZ.out⟩
end Wd
namespace Wd
open Go.RowKit Pv Kc
theorem q1T:(prog.info? 168).map (·.size)=some 3:=by kernel_rfl
theorem q3p(g i:Nat)(hi:i<2)(w:World) :
  Calls prog 90 #[.pointer (some ⟨g,0,none⟩),.int .i64 (i:Int),.bool true] w fun e w'=>e=.returned (.agg #[(.pointer (some ⟨g,99+i * 22+14,none⟩)),(.pointer (some ⟨g,99+i * 22+18,none⟩)),(.pointer (some ⟨g,68+i * 14+10,none⟩))])/\Below w.heap.size w w':=by
 have hi2:(i:Int)<2:=by omega
 have hi0:(0:Int)<=(i:Int):=by omega
 go_enter func90,ntmps90
 go_upto_region 1 with fail
 have K0:=CAt.new 168 w #[.pointer none,.pointer none,.pointer none];have b0:Below w.heap.size w (w.alloc (.cells #[.pointer none,.pointer none,.pointer none] 168)):=znw w _;generalize w.alloc (.cells #[.pointer none,.pointer none,.pointer none] 168)=w0 at *;have HK0:=hide (show _/\_ from ⟨K0,b0⟩);clear K0 b0;go_quiet (fail);simp only[Exit.then];apply_assumption;have C1:=HK0.out.1.over (below_drewN (Below.refl w0.heap.size w0) nq);have b1:=below_drewN HK0.out.2 nq;clear HK0;generalize w0.drewN nq=w1 at *
 go_upto_region 3 with fail
 refine wp_region_held_drew (S:=fun _=>True) (by kernel_rfl) trivial (fun hS=>?_)
 refine Od.G 0 (.pointer (some ⟨g,99+i * 22,none⟩)) 21 rfl rfl hS ?_;refine Od.G 1 (.pointer (some ⟨g,99+i * 22,none⟩)) 22 rfl rfl hS ?_;refine Od.G 2 (.pointer (some ⟨g,99+i * 22+14,none⟩)) 23 rfl rfl hS ?_;refine Od.G 3 (.pointer (some ⟨g,99+i * 22,none⟩)) 24 rfl rfl hS ?_;refine Od.G 4 (.pointer (some ⟨g,99+i * 22,none⟩)) 25 rfl rfl hS ?_;refine Od.G 5 (.pointer (some ⟨g,99+i * 22+18,none⟩)) 26 rfl rfl hS ?_;refine Od.G 6 (.pointer (some ⟨g,68+i * 14,none⟩)) 27 rfl rfl hS ?_;refine Od.G 7 (.pointer (some ⟨g,68+i * 14,none⟩)) 28 rfl rfl hS ?_;refine Od.G 8 (.pointer (some ⟨g,68+i * 14+10,none⟩)) 29 rfl rfl hS ?_;refine Od.G 9 (.agg #[(.pointer (some ⟨g,99+i * 22+14,none⟩)),(.pointer (some ⟨g,99+i * 22+18,none⟩)),(.pointer (some ⟨g,68+i * 14+10,none⟩))]) 30 rfl rfl hS ?_;have q1:(Option.map (fun x=>x.size) (prog.info? 168))=some (#[(.pointer (some ⟨g,99+i * 22+14,none⟩)),(.pointer (some ⟨g,99+i * 22+18,none⟩)),(.pointer (some ⟨g,68+i * 14+10,none⟩))]:Array Value).size:=by rw[q1T];rfl
 have q2:(#[(.pointer (some ⟨g,99+i * 22+14,none⟩)),(.pointer (some ⟨g,99+i * 22+18,none⟩)),(.pointer (some ⟨g,68+i * 14+10,none⟩))]:Array Value).all (fun x=>x.oneCell')=true:=by simp[Value.oneCell']
 have q3:w1.drew.there w.heap.size 0 (#[(.pointer (some ⟨g,99+i * 22+14,none⟩)),(.pointer (some ⟨g,99+i * 22+18,none⟩)),(.pointer (some ⟨g,68+i * 14+10,none⟩))]:Array Value).size:=(C1.over (Below.refl w1.heap.size w1).drew).there 0 _ (by exact Nat.le_refl _)
 simp only[Od.pp,Od.pb,Od.pc];refine Od.z0n (i:=10) (by kernel_rfl) rfl rfl 168 _ _ rfl rfl w.heap.size 0 #[(.pointer (some ⟨g,99+i * 22+14,none⟩)),(.pointer (some ⟨g,99+i * 22+18,none⟩)),(.pointer (some ⟨g,68+i * 14+10,none⟩))] rfl rfl q3 q1 q2 trivial ?_
 refine wpAnyH_done (by kernel_rfl) ?_ _
 have C2:=(C1.over (Below.refl w1.heap.size w1).drew).z0s (ds:=#[(.pointer (some ⟨g,99+i * 22+14,none⟩)),(.pointer (some ⟨g,99+i * 22+18,none⟩)),(.pointer (some ⟨g,68+i * 14+10,none⟩))]) rfl;have b2:=z0a (Nat.le_refl _) (#[(.pointer (some ⟨g,99+i * 22+14,none⟩)),(.pointer (some ⟨g,99+i * 22+18,none⟩)),(.pointer (some ⟨g,68+i * 14+10,none⟩))]:Array Value).toList 0 _ (b1.trans ((Below.refl w1.heap.size w1).drew.mono b1.size));have HZ:=hide (show _/\_ from ⟨C2,b2⟩);clear C2 b2 q1 q2 q3;generalize w1.drew.setCells w.heap.size 0 (#[(.pointer (some ⟨g,99+i * 22+14,none⟩)),(.pointer (some ⟨g,99+i * 22+18,none⟩)),(.pointer (some ⟨g,68+i * 14+10,none⟩))]:Array Value).toList=w2 at *;go_simp;go_wp2;exact bodyPost_ret (v:=.agg #[(.pointer (some ⟨g,99+i * 22+14,none⟩)),(.pointer (some ⟨g,99+i * 22+18,none⟩)),(.pointer (some ⟨g,68+i * 14+10,none⟩))]) (results_cell_row results90 _ _ w.heap.size 168 #[(.pointer (some ⟨g,99+i * 22+14,none⟩)),(.pointer (some ⟨g,99+i * 22+18,none⟩)),(.pointer (some ⟨g,68+i * 14+10,none⟩))] (0,0) _ rfl HZ.out.1 underlying168 rfl (by kernel_rfl)) rfl ⟨rfl,HZ.out.2⟩
theorem q0D(g i:Nat)(hi:i<2)(w:World) :
  Calls prog 90 #[.pointer (some ⟨g,0,none⟩),.int .i64 (i:Int),.bool false] w fun e w'=>e=.returned (.agg #[(.pointer (some ⟨g,68+i * 14+6,none⟩)),(.pointer (some ⟨g,68+i * 14+10,none⟩)),(.pointer (some ⟨g,99+i * 22+18,none⟩))])/\Below w.heap.size w w':=by
 have hi2:(i:Int)<2:=by omega
 have hi0:(0:Int)<=(i:Int):=by omega
 go_enter func90,ntmps90
 go_upto_region 1 with fail
 have K0:=CAt.new 168 w #[.pointer none,.pointer none,.pointer none];have b0:Below w.heap.size w (w.alloc (.cells #[.pointer none,.pointer none,.pointer none] 168)):=znw w _;generalize w.alloc (.cells #[.pointer none,.pointer none,.pointer none] 168)=w0 at *;have HK0:=hide (show _/\_ from ⟨K0,b0⟩);clear K0 b0;go_quiet (fail);simp only[Exit.then];apply_assumption;have C1:=HK0.out.1.over (below_drewN (Below.refl w0.heap.size w0) nq);have b1:=below_drewN HK0.out.2 nq;clear HK0;generalize w0.drewN nq=w1 at *
 go_upto_region 4 with fail
 refine wp_region_held_drew (S:=fun _=>True) (by kernel_rfl) trivial (fun hS=>?_)
 refine Od.G 0 (.pointer (some ⟨g,68+i * 14,none⟩)) 31 rfl rfl hS ?_;refine Od.G 1 (.pointer (some ⟨g,68+i * 14,none⟩)) 32 rfl rfl hS ?_;refine Od.G 2 (.pointer (some ⟨g,68+i * 14+6,none⟩)) 33 rfl rfl hS ?_;refine Od.G 3 (.pointer (some ⟨g,68+i * 14,none⟩)) 34 rfl rfl hS ?_;refine Od.G 4 (.pointer (some ⟨g,68+i * 14,none⟩)) 35 rfl rfl hS ?_;refine Od.G 5 (.pointer (some ⟨g,68+i * 14+10,none⟩)) 36 rfl rfl hS ?_;refine Od.G 6 (.pointer (some ⟨g,99+i * 22,none⟩)) 37 rfl rfl hS ?_;refine Od.G 7 (.pointer (some ⟨g,99+i * 22,none⟩)) 38 rfl rfl hS ?_;refine Od.G 8 (.pointer (some ⟨g,99+i * 22+18,none⟩)) 39 rfl rfl hS ?_;refine Od.G 9 (.agg #[(.pointer (some ⟨g,68+i * 14+6,none⟩)),(.pointer (some ⟨g,68+i * 14+10,none⟩)),(.pointer (some ⟨g,99+i * 22+18,none⟩))]) 40 rfl rfl hS ?_;have q1:(Option.map (fun x=>x.size) (prog.info? 168))=some (#[(.pointer (some ⟨g,68+i * 14+6,none⟩)),(.pointer (some ⟨g,68+i * 14+10,none⟩)),(.pointer (some ⟨g,99+i * 22+18,none⟩))]:Array Value).size:=by rw[q1T];rfl
 have q2:(#[(.pointer (some ⟨g,68+i * 14+6,none⟩)),(.pointer (some ⟨g,68+i * 14+10,none⟩)),(.pointer (some ⟨g,99+i * 22+18,none⟩))]:Array Value).all (fun x=>x.oneCell')=true:=by simp[Value.oneCell']
 have q3:w1.drew.there w.heap.size 0 (#[(.pointer (some ⟨g,68+i * 14+6,none⟩)),(.pointer (some ⟨g,68+i * 14+10,none⟩)),(.pointer (some ⟨g,99+i * 22+18,none⟩))]:Array Value).size:=(C1.over (Below.refl w1.heap.size w1).drew).there 0 _ (by exact Nat.le_refl _)
 simp only[Od.pp,Od.pb,Od.pc];refine Od.z0n (i:=10) (by kernel_rfl) rfl rfl 168 _ _ rfl rfl w.heap.size 0 #[(.pointer (some ⟨g,68+i * 14+6,none⟩)),(.pointer (some ⟨g,68+i * 14+10,none⟩)),(.pointer (some ⟨g,99+i * 22+18,none⟩))] rfl rfl q3 q1 q2 trivial ?_
 refine wpAnyH_done (by kernel_rfl) ?_ _
 have C2:=(C1.over (Below.refl w1.heap.size w1).drew).z0s (ds:=#[(.pointer (some ⟨g,68+i * 14+6,none⟩)),(.pointer (some ⟨g,68+i * 14+10,none⟩)),(.pointer (some ⟨g,99+i * 22+18,none⟩))]) rfl;have b2:=z0a (Nat.le_refl _) (#[(.pointer (some ⟨g,68+i * 14+6,none⟩)),(.pointer (some ⟨g,68+i * 14+10,none⟩)),(.pointer (some ⟨g,99+i * 22+18,none⟩))]:Array Value).toList 0 _ (b1.trans ((Below.refl w1.heap.size w1).drew.mono b1.size));have HZ:=hide (show _/\_ from ⟨C2,b2⟩);clear C2 b2 q1 q2 q3;generalize w1.drew.setCells w.heap.size 0 (#[(.pointer (some ⟨g,68+i * 14+6,none⟩)),(.pointer (some ⟨g,68+i * 14+10,none⟩)),(.pointer (some ⟨g,99+i * 22+18,none⟩))]:Array Value).toList=w2 at *;go_simp;go_wp2;exact bodyPost_ret (v:=.agg #[(.pointer (some ⟨g,68+i * 14+6,none⟩)),(.pointer (some ⟨g,68+i * 14+10,none⟩)),(.pointer (some ⟨g,99+i * 22+18,none⟩))]) (results_cell_row results90 _ _ w.heap.size 168 #[(.pointer (some ⟨g,68+i * 14+6,none⟩)),(.pointer (some ⟨g,68+i * 14+10,none⟩)),(.pointer (some ⟨g,99+i * 22+18,none⟩))] (0,0) _ rfl HZ.out.1 underlying168 rfl (by kernel_rfl)) rfl ⟨rfl,HZ.out.2⟩
theorem q1i(g o:Nat)(l:Ln.Line)(v1:Value)(P:Nat->Prop)(w:World)(h1:z0I P w v1 1 16 (txC l.S))(c0:w.cell? ⟨g,o,none⟩=some v1)(c2:w.cell? ⟨g,o+2,none⟩=some (.int .i64 l.g))(h0:0<=l.g) :
  Calls prog 91 #[.pointer (some ⟨g,o,none⟩)] w fun e w'=>e=.returned (.string (z3y l))/\Below w.heap.size w w':=by
 obtain ⟨A,C,rfl,R,-⟩:=z4W h1 (z1L l.S) (by decide)
 have hD:z3y l=if (l.S.length:Int)<=l.g then ByteArray.empty else l.S.getD l.g.toNat ByteArray.empty:=by unfold z3y;rfl
 generalize z3y l=D at *;have HD:=hide hD;have HR:=hide R;clear hD h1 R
 go_enter func91,ntmps91
 go_upto_region 1 with fail
 go_quiet (fail);simp only[Exit.then];apply_assumption;have hb:=below_drewN (Below.refl w.heap.size w) nq;have d0:(w.drewN nq).cell? ⟨g,o,none⟩=some (.slice A l.S.length C):=c0;have d2:(w.drewN nq).cell? ⟨g,o+2,none⟩=some (.int .i64 l.g):=c2;have HR1:Hid (Row (w.drewN nq) A l.S.length C 1 (txC l.S)):=⟨HR.out.len,HR.out.nil,HR.out.at_⟩;clear c0 c2 HR;generalize w.drewN nq=w1 at *;have HB:=hide hb;clear hb
 by_cases hle:(l.S.length:Int)<=l.g
 ·have hd:=HD.out.trans (if_pos hle);have HDD:=hide hd;clear hd HD;have hge:l.g≥(l.S.length:Int):=hle;go_wp2;go_ret;rw[HDD.out];exact ⟨rfl,HB.out⟩
 ·have hd:=HD.out.trans (if_neg hle);obtain ⟨k,hk⟩:∃ k:Nat,l.g=(k:Int):=⟨l.g.toNat,by omega⟩
  rw[hk]at d2 hd hle;have hkl:k<l.S.length:=by omega
  rw[Int.toNat_natCast]at hd;have hkI:(k:Int)<(l.S.length:Int):=by omega
  have hk0:(0:Int)<=(k:Int):=by omega
  have hA:∃ b off,A=some ⟨b,off,none⟩/\w1.cell? ⟨b,off+k,none⟩=some (.string (l.S.getD k ByteArray.empty)):=by
   cases A with
   | none=>have:=(HR1.out.nil rfl).1;omega
   | some ad =>
    have h:=HR1.out.at_ ad rfl k _ (z7D l.S k hkl);have h0':=HR1.out.at_ ad rfl 0 _ (z7D l.S 0 (by omega))
    obtain ⟨b,off,sp⟩:=ad;have hs:sp=none:=by simpa [Addr.add] using World.cell?_spot h0'
    subst hs;rw[Addr.add_lit]at h;exact ⟨b,off,rfl,h⟩
  obtain ⟨b,off,rfl,hs⟩:=hA;generalize l.S.getD k ByteArray.empty=tx at *;have HDD:=hide hd;clear hd HD HR1
  go_upto_region 3 with fail
  go_quiet (fail);go_wp2;go_ret;rw[HDD.out]
  first | exact ⟨rfl,below_drewN HB.out _⟩ | exact ⟨rfl,HB.out⟩
theorem q0Z(s:ByteArray)(w:World)(hs:s.size<=1000):Calls prog 92 #[.string s] w fun e w'=>e=.returned (.string (q2u s))/\Below w.heap.size w w':=by
 have HEN:=hide (Cd.z6g 3 1 0 ((s.size:Int)+1) [] [] none none 0 0 0 0 0 0 w ⟨by simp,by simp,fun h=>absurd h (by simp),fun h=>absurd h (by simp),fun i h=>absurd h (by simp),fun i h=>absurd h (by simp)⟩)
 have hw:IntKind.i64.wrap ((s.size:Int)+1)=(s.size:Int)+1:=z7V (by omega) (by omega)
 unfold q2u;generalize Cd.encS 3 1 0 ((s.size:Int)+1) [] []=E at *;generalize Cd.z0t 3 1 0 ((s.size:Int)+1) [] []=N at *
 go_enter func92,ntmps92
 go_wp2_with (go_at_call 122;refine HEN.out.mono ?_;rintro e w1 ⟨rfl,hb1⟩)
 go_ret;exact ⟨rfl,hb1⟩
structure j5M(P:Nat->Prop)(w0:World)(l:Ln.Line)(gn:Nat)(ts:Array Value)(w:World):Prop where
 ex:∃ u1 u2,ts=#[u1,u2,.int .i64 l.g,.bool l.cl]/\z0I (fun b=>New P w0 0 b/\b≠gn) w u1 1 16 (txC l.S)/\z0I (fun b=>New P w0 0 b/\b≠gn) w u2 1 8 (inC l.D)
 cat:CAt 47 w gn ts
 bel:Below w0.heap.size w0 w
 le:w0.heap.size<=gn
def Z4':Array Value:=#[.slice none 0 0,.slice none 0 0,.int .i64 0,.bool false]
theorem z0I.sets{P:Nat->Prop}{w:World}{v:Value}{sz bts:Nat}{cs:List Value}(h:z0I P w v sz bts cs){g:Nat}(hg:¬ P g)(o:Nat)(vs:List Value):z0I P (w.setCells g o vs) v sz bts cs:=h.keep fun b hb _=>z1c (show b≠g from fun e=>hg (by rw[← e];exact hb)) vs o w
theorem z2S{P Q:Nat->Prop}{w w':World}{u1 u2:Value}{s t s' t':Nat}{a b:List Value}(h1:z0I P w u1 s t a)(h2:z0I Q w' u2 s' t' b)(n:Int)(c:Bool):(#[u1,u2,.int .i64 n,.bool c]:Array Value).all (·.oneCell')=true:=by
 obtain ⟨A,k,C,D,rfl,-⟩:=h1;obtain ⟨B,m,E,F,rfl,-⟩:=h2
 simp[Value.oneCell']
theorem z6S{P:Nat->Prop}{w0 wx w3:World}{l:Ln.Line}{u1 u2:Value}(h1:z0I (New (fun b=>P b/\b<w0.heap.size) wx 0) w3 u1 1 16 (txC l.S))(h2:z0I (New (fun b=>P b/\b<w0.heap.size) wx 0) w3 u2 1 8 (inC l.D))(hx:wx.heap.size=w0.heap.size)(hb:Below w0.heap.size w0 w3):j5M P w0 l w3.heap.size #[u1,u2,.int .i64 l.g,.bool l.cl] ((w3.alloc (.cells Z4' 47)).setCells w3.heap.size 0 (#[u1,u2,.int .i64 l.g,.bool l.cl]:Array Value).toList):=by
 have bS:Below w3.heap.size w3 ((w3.alloc (.cells Z4' 47)).setCells w3.heap.size 0 (#[u1,u2,.int .i64 l.g,.bool l.cl]:Array Value).toList):=z0a (Nat.le_refl _) _ _ _ (znw w3 _)
 have key:∀ b,b<w3.heap.size->New (fun b=>P b/\b<w0.heap.size) wx 0 b->New P w0 0 b/\b≠w3.heap.size:=fun b hl hp=>⟨by
  rcases hp with ⟨hp,_⟩ | hp
  ·exact .inl hp
  ·exact .inr (by omega),by omega⟩
 exact ⟨⟨u1,u2,rfl,(h1.mono key).over bS,(h2.mono key).over bS⟩,(CAt.new 47 w3 Z4').z0s rfl,zbt hb bS,hb.size⟩
theorem z6V{P:Nat->Prop}{w0 wx w3:World}{l:Ln.Line}{u1 u2:Value}(h1:z0I (New (fun b=>P b/\b<w0.heap.size) wx 0) w3 u1 1 16 (txC l.S))(h2:z0I (New (fun b=>P b/\b<w0.heap.size) wx 0) w3 u2 1 8 (inC l.D))(hx:wx.heap.size=w0.heap.size+1)(hb:Below w0.heap.size w0 w3)(hc:CAt 47 w3 w0.heap.size Z4'):j5M P w0 l w0.heap.size #[u1,u2,.int .i64 l.g,.bool l.cl] (w3.setCells w0.heap.size 0 (#[u1,u2,.int .i64 l.g,.bool l.cl]:Array Value).toList):=by
 have key:∀ b,b<w3.heap.size->New (fun b=>P b/\b<w0.heap.size) wx 0 b->New P w0 0 b/\b≠w0.heap.size:=fun b hl hp=>by
  rcases hp with ⟨hp,_⟩ | hp
  ·exact ⟨.inl hp,by omega⟩
  ·exact ⟨.inr (by omega),by omega⟩
 exact ⟨⟨u1,u2,rfl,z0I.sets (h1.mono key) (fun e=>e.2 rfl) _ _,z0I.sets (h2.mono key) (fun e=>e.2 rfl) _ _⟩,hc.z0s rfl,z0a (Nat.le_refl _) _ _ _ hb,Nat.le_refl _⟩
def q8t(a v:Value):Sem Unit:=Instr.storeAt 168 a v
theorem z4y(a v:Value):Instr.storeAt 168 a v=q8t a v:=rfl
theorem z9F(w1:World)(p q r:Value)(h:(#[p,q,r]:Array Value).all (·.oneCell')=true):∃ w2,(q8t (.pointer (some ⟨w1.heap.size,0,none⟩)) (.agg #[p,q,r])).run prog (w1.alloc (.cells #[.pointer none,.pointer none,.pointer none] 168))=.ok () w2/\CAt 168 w2 w1.heap.size #[p,q,r]/\Below w1.heap.size w1 w2:=by
 have R0:=CAt.new 168 w1 #[.pointer none,.pointer none,.pointer none];exact ⟨_,run_storeAt_mid (P:=prog) _ _ 0 168 #[p,q,r] (R0.there 0 _ (Nat.le_refl _)) (by rw[q1T];rfl) h,R0.z0s rfl,z0a (Nat.le_refl _) _ _ _ (znw w1 _)⟩
theorem q0L(x:Wo)(v:WoV){i:Nat}(hi:i<2)(l:Ln.Line)(u1 u2:Value):At (wdC x v) (99+i * 22+14) (lnL (x.c i).out (v.c i).said (v.c i).due) (lnL l u1 u2) (wdC (z3a x i true l) (v.upd i { v.c i with said:=u1,due:=u2 })):=
 (q0F x v hi { x.c i with out:=l } { v.c i with said:=u1,due:=u2 }).nest (by simpa using z9l (x.c i) (v.c i) l u1 u2)
theorem q0S(x:Wo)(v:WoV){i:Nat}(hi:i<2)(l:Ln.Line)(u1 u2:Value):At (wdC x v) (68+i * 14+6) (lnL (x.p.L i).out (v.p.l i).said (v.p.l i).due) (lnL l u1 u2) (wdC (z3a x i false l) { v with p:=v.p.upd i { v.p.l i with said:=u1,due:=u2 } }):=by
 have h:=(z7Z x v { x.p with L:=z0X x.p.L i { x.p.L i with out:=l } } (v.p.upd i { v.p.l i with said:=u1,due:=u2 })).nest ((q8W x.p v.p hi { x.p.L i with out:=l } { v.p.l i with said:=u1,due:=u2 }).nest (q6L (x.p.L i) (v.p.l i) l u1 u2))
 rw[show 2+(66+i * 14+6)=68+i * 14+6 by omega]at h
 exact h
theorem q9D{P:Nat->Prop}{w:World}{g:Nat}{x:Wo}{v:WoV}(hI:WIn P w x v)(hg:¬ P g)(C0:CAt 98 w g (wdC x v)){i:Nat}(hi:i<2){l:Ln.Line}{u1 u2:Value}(h1:z0I P w u1 1 16 (txC l.S))(h2:z0I P w u2 1 8 (inC l.D)):z0W P w g (z3a x i true l) (w.setCells g (99+i * 22+14) (lnL l u1 u2)):=by
 have A3:Alt g w (w.setCells g (99+i * 22+14) (lnL l u1 u2)):=(Alt.refl g w).sets _ _;have h:=hI.new hg A3 0;refine ⟨_,(q0L x v hi l u1 u2).sets C0,⟨h.p,fun k hk=>?_⟩,A3⟩
 show CIn _ _ (z2Y x.c i { x.c i with out:=l } k) (if k=i then { v.c i with said:=u1,due:=u2 } else v.c k)
 unfold z2Y
 by_cases e:k=i
 ·rw[if_pos e,if_pos e];have hc:=h.c i hi;have m:∀ b,b<(w.setCells g (99+i * 22+14) (lnL l u1 u2)).heap.size->(P b/\b<w.heap.size)->New P w 0 b:=fun b _ hb=>.inl hb;exact ⟨hc.set,hc.pd,hc.rp,(z0I.sets (h1.mono (P':=fun b=>P b/\b<w.heap.size) fun b hl hp=>⟨hp,hl⟩) (fun e=>hg e.1) _ _).mono m,(z0I.sets (h2.mono (P':=fun b=>P b/\b<w.heap.size) fun b hl hp=>⟨hp,hl⟩) (fun e=>hg e.1) _ _).mono m⟩
 ·rw[if_neg e,if_neg e];exact h.c k hk
theorem q7c{P:Nat->Prop}{w:World}{g:Nat}{x:Wo}{v:WoV}(hI:WIn P w x v)(hg:¬ P g)(C0:CAt 98 w g (wdC x v)){i:Nat}(hi:i<2){l:Ln.Line}{u1 u2:Value}(h1:z0I P w u1 1 16 (txC l.S))(h2:z0I P w u2 1 8 (inC l.D)):z0W P w g (z3a x i false l) (w.setCells g (68+i * 14+6) (lnL l u1 u2)):=by
 have A3:Alt g w (w.setCells g (68+i * 14+6) (lnL l u1 u2)):=(Alt.refl g w).sets _ _;have h:=hI.new hg A3 0;refine ⟨_,(q0S x v hi l u1 u2).sets C0,⟨⟨h.p.ws,h.p.set,fun k hk=>?_,h.p.q⟩,h.c⟩,A3⟩
 show z5r _ _ (z0X x.p.L i { x.p.L i with out:=l } k) (if k=i then { v.p.l i with said:=u1,due:=u2 } else v.p.l k)
 unfold z0X
 by_cases e:k=i
 ·rw[if_pos e,if_pos e];have hc:=h.p.lk i hi;have m:∀ b,b<(w.setCells g (68+i * 14+6) (lnL l u1 u2)).heap.size->(P b/\b<w.heap.size)->New P w 0 b:=fun b _ hb=>.inl hb;exact ⟨hc.told,hc.done,(z0I.sets (h1.mono (P':=fun b=>P b/\b<w.heap.size) fun b hl hp=>⟨hp,hl⟩) (fun e=>hg e.1) _ _).mono m,(z0I.sets (h2.mono (P':=fun b=>P b/\b<w.heap.size) fun b hl hp=>⟨hp,hl⟩) (fun e=>hg e.1) _ _).mono m⟩
 ·rw[if_neg e,if_neg e];exact h.p.lk k hk
theorem z9N{w:World}{g:Nat}{x:Wo}{v:WoV}(h:CAt 98 w g (wdC x v)){i:Nat}(hi:i<2):w.cell? ⟨g,99+i * 22+18+1,none⟩=some (.int .i64 (x.c i).h1)/\w.cell? ⟨g,99+i * 22+18+2,none⟩=some (.int .i64 (x.c i).h2)/\w.cell? ⟨g,99+i * 22+18+3,none⟩=some (.int .i64 (x.c i).h3):=by
 rw[h.cell,h.cell,h.cell]
 match i,hi with
 | 0,_=>exact ⟨rfl,rfl,rfl⟩
 | 1,_=>exact ⟨rfl,rfl,rfl⟩
theorem z9t{w:World}{g:Nat}{x:Wo}{v:WoV}(h:CAt 98 w g (wdC x v)){i:Nat}(hi:i<2):w.cell? ⟨g,68+i * 14+10+1,none⟩=some (.int .i64 (x.p.L i).h1)/\w.cell? ⟨g,68+i * 14+10+2,none⟩=some (.int .i64 (x.p.L i).h2)/\w.cell? ⟨g,68+i * 14+10+3,none⟩=some (.int .i64 (x.p.L i).h3):=by
 rw[h.cell,h.cell,h.cell]
 match i,hi with
 | 0,_=>exact ⟨rfl,rfl,rfl⟩
 | 1,_=>exact ⟨rfl,rfl,rfl⟩
theorem z8r{w:World}{g o:Nat}{a b c d:Value}(h:w.rangeAt g o [a,b,c,d]):w.cell? ⟨g,o,none⟩=some a/\w.cell? ⟨g,o+2,none⟩=some c:=⟨by simpa using h 0 a rfl,h 2 c rfl⟩
end Wd
end Go.Proofs.YtmopekkhmhhcaaaGreat
