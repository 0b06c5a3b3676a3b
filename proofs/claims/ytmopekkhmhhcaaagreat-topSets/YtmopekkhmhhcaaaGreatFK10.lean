/- Parts of the proof. -/
import Derived.Test.YtmopekkhmhhcaaaGreatFL
import Derived.Test.YtmopekkhmhhcaaaGreatFK45
set_option maxRecDepth 100000
set_option maxHeartbeats 16000000
namespace Go.Proofs.YtmopekkhmhhcaaaGreat
open Go.Proofs.Tryz
namespace Wd
open Go.RowKit Pv Kc
structure y0g(P:Nat->Prop)(w0:World)(rp:Pr)(n:Nat)(gn:Nat)(ts:Array Value)(up:Value)(w:World):Prop where
 ex:∃ u,ts=prC rp u/\PIn (fun b=>New P w0 0 b/\b≠gn) w rp u
 sl:∃ A C,up=.slice A n C
 cat:CAt 57 w gn ts
 bel:Below w0.heap.size w0 w
 le:w0.heap.size<=gn
theorem j1Q{P Q:Nat->Prop}{w0 wx w3:World}{rp:Pr}{u:PrV}{up:Value}{l:List Int}{k:Nat}(h:PIn (New (fun b=>P b/\b<w0.heap.size) wx k) w3 rp u)(hup:Rep Q w3 up 1 8 (inC l))(hx:wx.heap.size=w0.heap.size)(hb:Below w0.heap.size w0 w3):y0g P w0 rp l.length w3.heap.size (prC rp u) up ((w3.alloc (.cells zeroCells57 57)).setCells w3.heap.size 0 (prC rp u).toList):=by
 have bS:Below w3.heap.size w3 ((w3.alloc (.cells zeroCells57 57)).setCells w3.heap.size 0 (prC rp u).toList):=z0b (Nat.le_refl _) _ _ _ (znw w3 _);obtain⟨A,C,e,-⟩:=row_of hup (z0r l) (by decide)
 refine⟨⟨u,rfl,?_⟩,⟨A,C,e⟩,(CAt.new 57 w3 zeroCells57).z0H (by rw[z0e];rfl),zbt hb bS,hb.size⟩
 refine ((h.mono (P':=fun b=>New P w0 0 b/\b≠w3.heap.size) fun b hl hp=>⟨?_,by omega⟩).over bS)
 rcases hp with⟨hp,_⟩ | hp
 ·exact .inl hp
 ·exact .inr (by omega)
theorem j2p{P Q:Nat->Prop}{w0 wx w3:World}{rp:Pr}{u:PrV}{up:Value}{l:List Int}{k:Nat}(h:PIn (New (fun b=>P b/\b<w0.heap.size) wx k) w3 rp u)(hup:Rep Q w3 up 1 8 (inC l))(hx:wx.heap.size=w0.heap.size+1)(hb:Below w0.heap.size w0 w3)(hc:CAt 57 w3 w0.heap.size zeroCells57):y0g P w0 rp l.length w0.heap.size (prC rp u) up (w3.setCells w0.heap.size 0 (prC rp u).toList):=by
 obtain⟨A,C,e,-⟩:=row_of hup (z0r l) (by decide)
 refine⟨⟨u,rfl,?_⟩,⟨A,C,e⟩,hc.z0H (by rw[z0e];rfl),z0b (Nat.le_refl _) _ _ _ hb,Nat.le_refl _⟩
 have h':PIn (fun b=>New P w0 0 b/\b≠w0.heap.size) w3 rp u:=h.mono fun b _ hp=>by
  rcases hp with⟨hp,_⟩ | hp
  ·exact⟨.inl hp,by omega⟩
  ·exact⟨.inr (by omega),by omega⟩
 exact h'.sets (fun e=>e.2 rfl) _ _
theorem q6Y{w:World}{g:Nat}{x:Wo}{v:WoV}(h:CAt 98 w g (wdC x v)){i:Nat}(hi:i<2):w.cell? ⟨g,99+i * 22+14+2,none⟩=some (.int .i64 (x.c i).out.g):=by
 rw[h.cell]
 match i,hi with
 | 0,_=>rfl
 | 1,_=>rfl
theorem q7y{w:World}{g:Nat}{p:Pr}{u:PrV}(h:CAt 57 w g (prC p u)){i:Nat}(hi:i<2):w.cell? ⟨g,66+i * 14+6,none⟩=some (u.l i).said:=(h.lk hi).facts.2.2.2.2.2.2.1
structure PLp(P:Nat->Prop)(w:World)(g gn:Nat)(x:Wo)(rp:Pr)(u:PrV)(k:Nat)(wl:World):Prop where
 ex:∃ hp',(∀ j,j<k->hp' j=z5a rp x.c j)/\z1a P w g { x with p:=rp,hp:=hp' } wl
 cat:CAt 57 wl gn (prC rp u)
attribute [local go_sem ↓] z0K z0q z6B
theorem q1k(g:Nat)(x:Wo)(v:WoV)(P:Nat->Prop)(w:World)(hC:CAt 98 w g (wdC x v))(hI:WIn P w x v)(hg:¬ P g)(hq88:x.p.q.length * 88<=140737488351232) :
  Calls prog 58 #[.pointer (some ⟨g,0,none⟩)] w (q0h P w g (z4G x)):=by
 have hD:z4G x=if (endP x.p x.ck).2.2=0 then ({ x with p:=(endP x.p x.ck).1,hp:=z5a (endP x.p x.ck).1 x.c },((endP x.p x.ck).2.1.length:Int),0) else (x,0,(endP x.p x.ck).2.2):=by unfold z4G;rfl
 have hlt:=hC.lt;have HEN:=hide (fun (wx:World) (hb:Below w.heap.size w wx)=>j1R x.p v.p (fun b=>P b/\b<w.heap.size) wx x.ck ((hI.p.mono (P':=fun b=>P b/\b<w.heap.size) fun b hl hp=>⟨hp,hl⟩).over hb) (by omega))
 have HLF:=hide (fun (wx:World) (hb:Below w.heap.size w wx)=>(show (q0k (.pointer (some ⟨g,2,none⟩))).run prog wx=.ok (.agg (prC x.p v.p)) wx/\wx.cell? ⟨g,0,none⟩=some (.int .i64 x.ck) from⟨j1T ((z8y x v x.p v.p).part (hC.over hb)) (z0a _ _),(hC.over hb).cell 0⟩));generalize z4G x=D at *;generalize endP x.p x.ck=r at *;obtain⟨rp,pl,re⟩:=r;dsimp only at hD;have HD:=hide hD;have HC:=hide hC;have HI:=hide hI;clear hD hC hI hq88;generalize Value.agg (prC x.p v.p)=V0 at HEN HLF;have HALd:Hid (Below w.heap.size w (w.alloc (.cells zeroCells57 57)).drew):=(znw w _).drew;have HACd:Hid (CAt 57 (w.alloc (.cells zeroCells57 57)).drew w.heap.size zeroCells57):=CAt.new 57 w zeroCells57
 go_enter func58,ntmps58
 go_upto_region 1 with fail
 apply j7Y (fun (gn:Nat) (ts:Array Value) (up:Value) w'=>y0g P w rp pl.length gn ts up w')
 ·skip;refine wp_region_noPanic ?_;refine wp_region_held_drew (S:=fun wx=>Below w.heap.size w wx) (by kernel_rfl) (Below.refl _ _).drew (fun hS=>?_)
  refine O.G 0 (.pointer (some ⟨g,0,none⟩)) 9 rfl rfl hS ?_;refine O.G 1 (.pointer (some ⟨g,0,none⟩)) 10 rfl rfl hS ?_;refine O.G 2 (.pointer (some ⟨g,2,none⟩)) 11 rfl rfl hS ?_;refine O.Z 3 V0 12 rfl rfl hS (fun wx hSw=>by obtain⟨l1,l2⟩:=HLF.out wx hSw;go_simp) ?_
  refine O.G 4 (.pointer (some ⟨g,0,none⟩)) 13 rfl rfl hS ?_;refine O.G 5 (.pointer (some ⟨g,0,none⟩)) 14 rfl rfl hS ?_;refine O.G 6 (.pointer (some ⟨g,0,none⟩)) 15 rfl rfl hS ?_;refine O.Z 7 (.int .i64 x.ck) 16 rfl rfl hS (fun wx hSw=>by obtain⟨l1,l2⟩:=HLF.out wx hSw;go_simp) ?_
  refine O.z4m (i:=8) (j:=13) (by kernel_rfl) rfl rfl rfl rfl (fun K hK=>?_) (fun K hK=>?_)
  ·go_simp
   go_at_call 66
   refine (HEN.out _ (by with_reducible exact (Below.refl w.heap.size w).drew)).mono ?_
   rintro e w3⟨u3,up,rfl,U3,Up,hb3⟩;dsimp only at U3 Up;have hb:=(Below.refl w.heap.size w).drew.trans (hb3.mono (Below.refl w.heap.size w).drew.size);obtain⟨ts,hts⟩:∃ y:Array Value,y=prC rp u3:=⟨_,rfl⟩;dsimp only;rw[← hts];have HT:=hide hts;clear hts;refine hK _ _ hb ?_;clear hK K;refine O.Z 9 (.tuple #[.agg ts,up,(.int .i64 re)]) 8 rfl rfl hb (fun wx hSw=>?_) ?_
   ·go_simp
   refine O.Z 10 (.agg ts) 18 rfl rfl hb (fun wx hSw=>?_) ?_
   ·go_simp
   refine O.Z 11 up 19 rfl rfl hb (fun wx hSw=>?_) ?_
   ·go_simp
   refine O.Z 12 (.int .i64 re) 20 rfl rfl hb (fun wx hSw=>?_) ?_
   ·go_simp
   refine O.z1e (i:=13) (by kernel_rfl) rfl rfl (fun K hK=>?_)
   go_simp;refine hK _ _ (hb.alloc hb.size _) ?_;clear hK K;have q2:ts.all (fun x=>x.oneCell')=true:=by rw[HT.out];exact z1c U3
   have HST:=j1Q U3 Up (by rfl) hb
   rw[← HT.out]at HST;change wpAnyH _ _ _ _ _ _ _ _ (w3.alloc (.cells zeroCells57 57));refine O.z0A (i:=14) (by kernel_rfl) rfl rfl 57 _ _ rfl rfl w3.heap.size 0 ts rfl rfl ((CAt.new 57 w3 zeroCells57).there 0 _ (by rw[HT.out];exact Nat.le_of_eq rfl)) (by rw[HT.out,z3l];rfl) q2 HST.bel ?_
   refine O.Z 15 up 5 rfl rfl HST.bel (fun wx hSw=>?_) ?_
   ·go_simp
   refine O.Z 16 (.int .i64 re) 6 rfl rfl HST.bel (fun wx hSw=>?_) ?_
   ·go_simp
   refine wpAnyH_done (by kernel_rfl) ?_ _
   obtain⟨gn,hgn⟩:∃ y,y=w3.heap.size:=⟨_,rfl⟩;rw[← hgn]at HST ⊢;simp only[O.pp,O.pb,O.pc];exact NoPanic.normal ⟨gn,ts,up,rfl,rfl,HST⟩
  ·go_simp;refine hK _ _ (hS.alloc hS.size _) ?_;clear hK K;refine O.z1e (i:=8) (by kernel_rfl) rfl rfl (fun K hK=>?_)
   go_simp
   go_at_call 66
   refine (HEN.out _ (by with_reducible exact HALd.out)).mono ?_
   rintro e w3⟨u3,up,rfl,U3,Up,hb3⟩;dsimp only at U3 Up;have hb:=zbt HALd.out hb3;obtain⟨ts,hts⟩:∃ y:Array Value,y=prC rp u3:=⟨_,rfl⟩;dsimp only;rw[← hts];have HT:=hide hts;clear hts;refine hK _ _ hb ?_;clear hK K;refine O.Z 9 (.tuple #[.agg ts,up,(.int .i64 re)]) 8 rfl rfl hb (fun wx hSw=>?_) ?_
   ·go_simp
   refine O.Z 10 (.agg ts) 18 rfl rfl hb (fun wx hSw=>?_) ?_
   ·go_simp
   refine O.Z 11 up 19 rfl rfl hb (fun wx hSw=>?_) ?_
   ·go_simp
   refine O.Z 12 (.int .i64 re) 20 rfl rfl hb (fun wx hSw=>?_) ?_
   ·go_simp
   have q2:ts.all (fun x=>x.oneCell')=true:=by rw[HT.out];exact z1c U3
   have R3:=HACd.out.over hb3;have HST:=j2p U3 Up (by simp) hb R3
   rw[← HT.out]at HST;refine O.z0A (i:=14) (by kernel_rfl) rfl rfl 57 _ _ rfl rfl w.heap.size 0 ts rfl rfl (R3.there 0 _ (by rw[HT.out];exact Nat.le_of_eq rfl)) (by rw[HT.out,z3l];rfl) q2 HST.bel ?_
   refine O.Z 15 up 5 rfl rfl HST.bel (fun wx hSw=>?_) ?_
   ·go_simp
   refine O.Z 16 (.int .i64 re) 6 rfl rfl HST.bel (fun wx hSw=>?_) ?_
   ·go_simp
   refine wpAnyH_done (by kernel_rfl) ?_ _
   obtain⟨gn,hgn⟩:∃ y,y=w.heap.size:=⟨_,rfl⟩;rw[← hgn]at HST ⊢;simp only[O.pp,O.pb,O.pc];exact NoPanic.normal ⟨gn,ts,up,rfl,rfl,HST⟩
 rintro gn ts up w5 S5;obtain⟨Au,Du,rfl⟩:=S5.sl;have HS5:=hide S5;have hle:=S5.le;have hlt5:=S5.cat.lt;clear S5 HLF HEN HALd HACd;have hgg:g≠gn:=by omega
 simp only[Exit.then];apply_assumption
 by_cases hE:re=0
 case neg =>
  replace HD:=hide (HD.out.trans (if_neg hE));have hE':(re != 0)=true:=by simpa using hE
  go_wp2;go_ret2;rw[HD.out];exact⟨rfl,.same (HC.out.over HS5.out.bel) HI.out hg (Alt.of HS5.out.bel)⟩
 subst hE;replace HD:=hide (HD.out.trans (if_pos rfl));obtain⟨u,hu1,hu2⟩:=HS5.out.ex;have hts:ts.size=97:=by rw[hu1];rfl
 have l5:=z0k HS5.out.cat hts;have s5:=j9w ((z8y x v rp u).there (HC.out.over HS5.out.bel)) (z0a _ _) (z1c hu2);have Z6:=q0Y HI.out hg (Below.refl _ w) HC.out hlt HS5.out.bel (hu2.mono (P':=New P w 0) fun b _ hb=>hb.1);have D6:=HS5.out.cat.others (c:=g) (o:=2) (by omega) (prC rp u).toList
 have hsaid:=fun i hi=>z5s (hu2.lk i hi).said (z2c _) (by decide)
 have HSD:=hide hsaid;have HR0:Hid (PLp P w g gn x rp u 0 (w5.setCells g 2 (prC rp u).toList)):=⟨⟨x.hp,fun j hj=>by omega,Z6⟩,by rw[hu1]at D6;exact D6⟩
 rw[← hu1]at s5 HR0;have HU1:=hide hu1;clear hu1;clear Z6 D6 hsaid hu2 hts;generalize w5.setCells g 2 ts.toList=w6 at *
 go_upto_region 6 with fail
 clear l5 s5
 go_loopw [28] (fun i wl=>∃ (k:Nat),k<=2/\i=.int .i64 (k:Int)/\Hid (PLp P w g gn x rp u k wl)) (fun i _=>2 - (intOf i).toNat)
 case atStart=>exact⟨0,by omega,rfl,HR0⟩
 case round =>
  obtain⟨k,hk,rfl,HR⟩:=hrel;clear HR0
  by_cases hltk:k<2
  ·have hk2:(k:Int)<2:=by omega
   have hk0:(0:Int)<=(k:Int):=by omega
   obtain⟨hp',hp1,v6,C6,I6,A6⟩:=HR.out.ex;obtain⟨As,Ds,es,-,-⟩:=HSD.out k hltk;have D6:=HR.out.cat;have hlt6:=C6.lt;have hlt6n:=D6.lt;have hdr:=(Below.refl wr.heap.size wr).drew
   have HS6:wr.drew.cell? ⟨gn,0,none⟩=some (.int .i64 rp.h)/\wr.drew.cell? ⟨gn,1,none⟩=some (.int .i64 rp.t)/\wr.drew.cell? ⟨gn,66+k * 14+6,none⟩=some (.slice As (rp.L k).out.S.length Ds)/\wr.drew.cell? ⟨g,99+k * 22+14+2,none⟩=some (.int .i64 (x.c k).out.g):=
    ⟨(D6.over hdr).cell 0,(D6.over hdr).cell 1,by rw[← es];exact q7y (D6.over hdr) hltk,q6Y (C6.over hdr) hltk⟩
   have hA7:=j7N { x with p:=rp,hp:=hp' } v6 hltk (z5a rp x.c k)
   have HA7:=hide hA7;have D7:=(D6.over hdr).others (c:=g) (o:=143+k * 8) (by omega) (hdL (z5a rp x.c k))
   have C7:=hA7.sets (C6.over hdr)
   have HS7:Hid ((wr.drew.setCells g (143+k * 8) (hdL (z5a rp x.c k))).cell? ⟨gn,0,none⟩=some (.int .i64 rp.h)/\(wr.drew.setCells g (143+k * 8) (hdL (z5a rp x.c k))).cell? ⟨gn,1,none⟩=some (.int .i64 rp.t)/\(wr.drew.setCells g (143+k * 8) (hdL (z5a rp x.c k))).cell? ⟨gn,66+k * 14+6,none⟩=some (.slice As (rp.L k).out.S.length Ds)/\(wr.drew.setCells g (143+k * 8) (hdL (z5a rp x.c k))).cell? ⟨g,99+k * 22+14+2,none⟩=some (.int .i64 (x.c k).out.g)):=
    ⟨D7.cell 0,D7.cell 1,by rw[← es];exact q7y D7 hltk,q6Y C7 hltk⟩
   have hng:¬ New P w 0 g:=Pv.z0N hg hlt;have Z7:=j6I (I6.over hdr) hng (C6.over hdr) hA7 rfl rfl
   have HR1:Hid (PLp P w g gn x rp u (k+1) (wr.drew.setCells g (143+k * 8) (hdL (z5a rp x.c k)))):=by
    refine⟨⟨q6V hp' k (z5a rp x.c k),fun j hj=>?_,z1a.trans A6 (z1a.trans (Alt.of (g:=g) hdr) (Z7.q4t hng))⟩,D7⟩;unfold q6V
    by_cases e:j=k
    ·rw[if_pos e,e]
    ·rw[if_neg e];exact hp1 j (by omega)
   have HX:=hide (show _/\_ from⟨C6,I6⟩);clear C6 I6 A6 D6 D7 C7 Z7 hA7 hdr es hp1
   go_upto_region 8 with fail
   refine wp_region_held_drew (S:=fun wx=>wx.cell? ⟨gn,0,none⟩=some (.int .i64 rp.h)/\wx.cell? ⟨gn,1,none⟩=some (.int .i64 rp.t)/\wx.cell? ⟨gn,66+k * 14+6,none⟩=some (.slice As (rp.L k).out.S.length Ds)/\wx.cell? ⟨g,99+k * 22+14+2,none⟩=some (.int .i64 (x.c k).out.g)) (by kernel_rfl) HS6 (fun hS=>?_)
   refine O.G 0 (.pointer (some ⟨g,0,none⟩)) 31 rfl rfl hS ?_;refine O.G 1 (.int .i64 (k:Int)) 32 rfl rfl hS ?_;refine O.G 2 (.pointer (some ⟨gn,0,none⟩)) 33 rfl rfl hS ?_;refine O.Z 3 (.int .i64 rp.h) 34 rfl rfl hS (fun wx hSw=>by obtain⟨l1,l2,l3,l4⟩:=hSw;go_simp) ?_
   refine O.G 4 (.pointer (some ⟨gn,1,none⟩)) 35 rfl rfl hS ?_;refine O.Z 5 (.int .i64 rp.t) 36 rfl rfl hS (fun wx hSw=>by obtain⟨l1,l2,l3,l4⟩:=hSw;go_simp) ?_
   refine O.G 6 (.int .i64 (k:Int)) 37 rfl rfl hS ?_;refine O.G 7 (.pointer (some ⟨gn,66,none⟩)) 38 rfl rfl hS ?_;refine O.G 8 (.pointer (some ⟨gn,66+k * 14,none⟩)) 39 rfl rfl hS ?_;refine O.G 9 (.pointer (some ⟨gn,66+k * 14+6,none⟩)) 40 rfl rfl hS ?_;refine O.G 10 (.pointer (some ⟨gn,66+k * 14+6,none⟩)) 41 rfl rfl hS ?_;refine O.Z 11 (.slice As (rp.L k).out.S.length Ds) 42 rfl rfl hS (fun wx hSw=>by obtain⟨l1,l2,l3,l4⟩:=hSw;go_simp) ?_
   refine O.G 12 (.int .i64 ((rp.L k).out.S.length:Int)) 43 rfl rfl hS ?_;refine O.G 13 (.pointer (some ⟨g,0,none⟩)) 44 rfl rfl hS ?_;refine O.G 14 (.int .i64 (k:Int)) 45 rfl rfl hS ?_;refine O.G 15 (.pointer (some ⟨g,0,none⟩)) 46 rfl rfl hS ?_;refine O.G 16 (.pointer (some ⟨g,99,none⟩)) 47 rfl rfl hS ?_;refine O.G 17 (.pointer (some ⟨g,99+k * 22,none⟩)) 48 rfl rfl hS ?_;refine O.G 18 (.pointer (some ⟨g,99+k * 22+14,none⟩)) 49 rfl rfl hS ?_;refine O.G 19 (.pointer (some ⟨g,99+k * 22+14+2,none⟩)) 50 rfl rfl hS ?_;refine O.Z 20 (.int .i64 (x.c k).out.g) 51 rfl rfl hS (fun wx hSw=>by obtain⟨l1,l2,l3,l4⟩:=hSw;go_simp) ?_
   refine O.G 21 (.agg #[.int .i64 rp.h,.int .i64 rp.t,.int .i64 ((rp.L k).out.S.length:Int),.int .i64 (x.c k).out.g]) 52 rfl rfl hS ?_;refine O.G 22 (.pointer (some ⟨g,0,none⟩)) 53 rfl rfl hS ?_;refine O.G 23 (.pointer (some ⟨g,143,none⟩)) 54 rfl rfl hS ?_;refine O.G 24 (.pointer (some ⟨g,143+k * 8,none⟩)) 55 rfl rfl hS ?_;refine O.G 25 (.pointer (some ⟨g,143+k * 8,none⟩)) 56 rfl rfl hS ?_;have q1:(Option.map (fun x=>x.size) (prog.info? 49))=some (#[.int .i64 rp.h,.int .i64 rp.t,.int .i64 ((rp.L k).out.S.length:Int),.int .i64 (x.c k).out.g]:Array Value).size:=by rw[q4b];rfl
   have q2:(#[.int .i64 rp.h,.int .i64 rp.t,.int .i64 ((rp.L k).out.S.length:Int),.int .i64 (x.c k).out.g]:Array Value).all (fun x=>x.oneCell')=true:=by simp[Value.oneCell']
   have q3:wr.drew.there g (143+k * 8) (#[.int .i64 rp.h,.int .i64 rp.t,.int .i64 ((rp.L k).out.S.length:Int),.int .i64 (x.c k).out.g]:Array Value).size:=HA7.out.there (HX.out.1.over (Below.refl wr.heap.size wr).drew);simp only[O.pp,O.pb,O.pc];refine O.z0A (i:=26) (by kernel_rfl) rfl rfl 49 _ _ rfl rfl g (143+k * 8) #[.int .i64 rp.h,.int .i64 rp.t,.int .i64 ((rp.L k).out.S.length:Int),.int .i64 (x.c k).out.g] rfl rfl q3 q1 q2 HS7.out ?_
   refine wpAnyH_done (by kernel_rfl) ?_ _
   change Exit.inBlock _ _ _ _ (wr.drew.setCells g (143+k * 8) (hdL (z5a rp x.c k)));clear q1 q2 q3 hS HS6 HS7 HX HA7;generalize wr.drew.setCells g (143+k * 8) (hdL (z5a rp x.c k))=w7 at *;go_simp;go_wp2;exact⟨⟨k+1,by omega,by go_num,HR1⟩,by simp[intOf];omega⟩
  ·obtain rfl:k=2:=by omega
   obtain⟨hp',hp1,v6,C6,I6,A6⟩:=HR.out.ex
   have e:wdC { x with p:=rp,hp:=hp' } v6=wdC { x with p:=rp,hp:=z5a rp x.c } v6:=by
    unfold wdC;dsimp only;rw[hp1 0 (by omega),hp1 1 (by omega)]
   rw[e]at C6;have HZ:Hid (z1a P w g { x with p:=rp,hp:=z5a rp x.c } wr):=⟨v6,C6,⟨I6.p,I6.c⟩,A6⟩
   clear C6 I6 A6 e HR hp1;go_wp2;go_ret2;rw[HD.out];exact⟨rfl,HZ.out⟩
end Wd
end Go.Proofs.YtmopekkhmhhcaaaGreat
