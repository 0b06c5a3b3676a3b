/- Parts of the proof. -/
import Derived.Test.YtmopekkhmhhcaaaGreatFL
import Derived.Test.YtmopekkhmhhcaaaGreatFK10
set_option maxRecDepth 100000
set_option maxHeartbeats 16000000
namespace Go.Proofs.YtmopekkhmhhcaaaGreat
open Go.Proofs.Tryz
namespace Wd
open Go.RowKit Pv Kc
theorem q2T:(prog.info? 168).map (·.size)=some 3:=by kernel_rfl
theorem q4o(g i:Nat)(hi:i<2)(w:World) :
  Calls prog 90 #[.pointer (some ⟨g,0,none⟩),.int .i64 (i:Int),.bool true] w fun e w'=>e=.returned (.agg #[(.pointer (some ⟨g,99+i * 22+14,none⟩)),(.pointer (some ⟨g,99+i * 22+18,none⟩)),(.pointer (some ⟨g,68+i * 14+10,none⟩))])/\Below w.heap.size w w':=by
 have hi2:(i:Int)<2:=by omega
 have hi0:(0:Int)<=(i:Int):=by omega
 go_enter func90,ntmps90
 go_upto_region 1 with fail
 have K0:=CAt.new 168 w #[.pointer none,.pointer none,.pointer none];have b0:Below w.heap.size w (w.alloc (.cells #[.pointer none,.pointer none,.pointer none] 168)):=znw w _;generalize w.alloc (.cells #[.pointer none,.pointer none,.pointer none] 168)=w0 at *;have HK0:=hide (show _/\_ from⟨K0,b0⟩);clear K0 b0;go_quiet (fail);simp only[Exit.then];apply_assumption;have C1:=HK0.out.1.over (below_drewN (Below.refl w0.heap.size w0) nq);have b1:=below_drewN HK0.out.2 nq;clear HK0;generalize w0.drewN nq=w1 at *
 go_upto_region 3 with fail
 refine wp_region_held_drew (S:=fun _=>True) (by kernel_rfl) trivial (fun hS=>?_)
 refine O.G 0 (.pointer (some ⟨g,99+i * 22,none⟩)) 21 rfl rfl hS ?_;refine O.G 1 (.pointer (some ⟨g,99+i * 22,none⟩)) 22 rfl rfl hS ?_;refine O.G 2 (.pointer (some ⟨g,99+i * 22+14,none⟩)) 23 rfl rfl hS ?_;refine O.G 3 (.pointer (some ⟨g,99+i * 22,none⟩)) 24 rfl rfl hS ?_;refine O.G 4 (.pointer (some ⟨g,99+i * 22,none⟩)) 25 rfl rfl hS ?_;refine O.G 5 (.pointer (some ⟨g,99+i * 22+18,none⟩)) 26 rfl rfl hS ?_;refine O.G 6 (.pointer (some ⟨g,68+i * 14,none⟩)) 27 rfl rfl hS ?_;refine O.G 7 (.pointer (some ⟨g,68+i * 14,none⟩)) 28 rfl rfl hS ?_;refine O.G 8 (.pointer (some ⟨g,68+i * 14+10,none⟩)) 29 rfl rfl hS ?_;refine O.G 9 (.agg #[(.pointer (some ⟨g,99+i * 22+14,none⟩)),(.pointer (some ⟨g,99+i * 22+18,none⟩)),(.pointer (some ⟨g,68+i * 14+10,none⟩))]) 30 rfl rfl hS ?_;have q1:(Option.map (fun x=>x.size) (prog.info? 168))=some (#[(.pointer (some ⟨g,99+i * 22+14,none⟩)),(.pointer (some ⟨g,99+i * 22+18,none⟩)),(.pointer (some ⟨g,68+i * 14+10,none⟩))]:Array Value).size:=by rw[q2T];rfl
 have q2:(#[(.pointer (some ⟨g,99+i * 22+14,none⟩)),(.pointer (some ⟨g,99+i * 22+18,none⟩)),(.pointer (some ⟨g,68+i * 14+10,none⟩))]:Array Value).all (fun x=>x.oneCell')=true:=by simp[Value.oneCell']
 have q3:w1.drew.there w.heap.size 0 (#[(.pointer (some ⟨g,99+i * 22+14,none⟩)),(.pointer (some ⟨g,99+i * 22+18,none⟩)),(.pointer (some ⟨g,68+i * 14+10,none⟩))]:Array Value).size:=(C1.over (Below.refl w1.heap.size w1).drew).there 0 _ (by exact Nat.le_refl _)
 simp only[O.pp,O.pb,O.pc];refine O.z0A (i:=10) (by kernel_rfl) rfl rfl 168 _ _ rfl rfl w.heap.size 0 #[(.pointer (some ⟨g,99+i * 22+14,none⟩)),(.pointer (some ⟨g,99+i * 22+18,none⟩)),(.pointer (some ⟨g,68+i * 14+10,none⟩))] rfl rfl q3 q1 q2 trivial ?_
 refine wpAnyH_done (by kernel_rfl) ?_ _
 have C2:=(C1.over (Below.refl w1.heap.size w1).drew).z0H (ds:=#[(.pointer (some ⟨g,99+i * 22+14,none⟩)),(.pointer (some ⟨g,99+i * 22+18,none⟩)),(.pointer (some ⟨g,68+i * 14+10,none⟩))]) rfl;have b2:=z0b (Nat.le_refl _) (#[(.pointer (some ⟨g,99+i * 22+14,none⟩)),(.pointer (some ⟨g,99+i * 22+18,none⟩)),(.pointer (some ⟨g,68+i * 14+10,none⟩))]:Array Value).toList 0 _ (b1.trans ((Below.refl w1.heap.size w1).drew.mono b1.size));have HZ:=hide (show _/\_ from⟨C2,b2⟩);clear C2 b2 q1 q2 q3;generalize w1.drew.setCells w.heap.size 0 (#[(.pointer (some ⟨g,99+i * 22+14,none⟩)),(.pointer (some ⟨g,99+i * 22+18,none⟩)),(.pointer (some ⟨g,68+i * 14+10,none⟩))]:Array Value).toList=w2 at *;go_simp;go_wp2;exact bodyPost_ret (v:=.agg #[(.pointer (some ⟨g,99+i * 22+14,none⟩)),(.pointer (some ⟨g,99+i * 22+18,none⟩)),(.pointer (some ⟨g,68+i * 14+10,none⟩))]) (results_cell_row results90 _ _ w.heap.size 168 #[(.pointer (some ⟨g,99+i * 22+14,none⟩)),(.pointer (some ⟨g,99+i * 22+18,none⟩)),(.pointer (some ⟨g,68+i * 14+10,none⟩))] (0,0) _ rfl HZ.out.1 underlying168 rfl (by kernel_rfl)) rfl ⟨rfl,HZ.out.2⟩
theorem q0I(g i:Nat)(hi:i<2)(w:World) :
  Calls prog 90 #[.pointer (some ⟨g,0,none⟩),.int .i64 (i:Int),.bool false] w fun e w'=>e=.returned (.agg #[(.pointer (some ⟨g,68+i * 14+6,none⟩)),(.pointer (some ⟨g,68+i * 14+10,none⟩)),(.pointer (some ⟨g,99+i * 22+18,none⟩))])/\Below w.heap.size w w':=by
 have hi2:(i:Int)<2:=by omega
 have hi0:(0:Int)<=(i:Int):=by omega
 go_enter func90,ntmps90
 go_upto_region 1 with fail
 have K0:=CAt.new 168 w #[.pointer none,.pointer none,.pointer none];have b0:Below w.heap.size w (w.alloc (.cells #[.pointer none,.pointer none,.pointer none] 168)):=znw w _;generalize w.alloc (.cells #[.pointer none,.pointer none,.pointer none] 168)=w0 at *;have HK0:=hide (show _/\_ from⟨K0,b0⟩);clear K0 b0;go_quiet (fail);simp only[Exit.then];apply_assumption;have C1:=HK0.out.1.over (below_drewN (Below.refl w0.heap.size w0) nq);have b1:=below_drewN HK0.out.2 nq;clear HK0;generalize w0.drewN nq=w1 at *
 go_upto_region 4 with fail
 refine wp_region_held_drew (S:=fun _=>True) (by kernel_rfl) trivial (fun hS=>?_)
 refine O.G 0 (.pointer (some ⟨g,68+i * 14,none⟩)) 31 rfl rfl hS ?_;refine O.G 1 (.pointer (some ⟨g,68+i * 14,none⟩)) 32 rfl rfl hS ?_;refine O.G 2 (.pointer (some ⟨g,68+i * 14+6,none⟩)) 33 rfl rfl hS ?_;refine O.G 3 (.pointer (some ⟨g,68+i * 14,none⟩)) 34 rfl rfl hS ?_;refine O.G 4 (.pointer (some ⟨g,68+i * 14,none⟩)) 35 rfl rfl hS ?_;refine O.G 5 (.pointer (some ⟨g,68+i * 14+10,none⟩)) 36 rfl rfl hS ?_;refine O.G 6 (.pointer (some ⟨g,99+i * 22,none⟩)) 37 rfl rfl hS ?_;refine O.G 7 (.pointer (some ⟨g,99+i * 22,none⟩)) 38 rfl rfl hS ?_;refine O.G 8 (.pointer (some ⟨g,99+i * 22+18,none⟩)) 39 rfl rfl hS ?_;refine O.G 9 (.agg #[(.pointer (some ⟨g,68+i * 14+6,none⟩)),(.pointer (some ⟨g,68+i * 14+10,none⟩)),(.pointer (some ⟨g,99+i * 22+18,none⟩))]) 40 rfl rfl hS ?_;have q1:(Option.map (fun x=>x.size) (prog.info? 168))=some (#[(.pointer (some ⟨g,68+i * 14+6,none⟩)),(.pointer (some ⟨g,68+i * 14+10,none⟩)),(.pointer (some ⟨g,99+i * 22+18,none⟩))]:Array Value).size:=by rw[q2T];rfl
 have q2:(#[(.pointer (some ⟨g,68+i * 14+6,none⟩)),(.pointer (some ⟨g,68+i * 14+10,none⟩)),(.pointer (some ⟨g,99+i * 22+18,none⟩))]:Array Value).all (fun x=>x.oneCell')=true:=by simp[Value.oneCell']
 have q3:w1.drew.there w.heap.size 0 (#[(.pointer (some ⟨g,68+i * 14+6,none⟩)),(.pointer (some ⟨g,68+i * 14+10,none⟩)),(.pointer (some ⟨g,99+i * 22+18,none⟩))]:Array Value).size:=(C1.over (Below.refl w1.heap.size w1).drew).there 0 _ (by exact Nat.le_refl _)
 simp only[O.pp,O.pb,O.pc];refine O.z0A (i:=10) (by kernel_rfl) rfl rfl 168 _ _ rfl rfl w.heap.size 0 #[(.pointer (some ⟨g,68+i * 14+6,none⟩)),(.pointer (some ⟨g,68+i * 14+10,none⟩)),(.pointer (some ⟨g,99+i * 22+18,none⟩))] rfl rfl q3 q1 q2 trivial ?_
 refine wpAnyH_done (by kernel_rfl) ?_ _
 have C2:=(C1.over (Below.refl w1.heap.size w1).drew).z0H (ds:=#[(.pointer (some ⟨g,68+i * 14+6,none⟩)),(.pointer (some ⟨g,68+i * 14+10,none⟩)),(.pointer (some ⟨g,99+i * 22+18,none⟩))]) rfl;have b2:=z0b (Nat.le_refl _) (#[(.pointer (some ⟨g,68+i * 14+6,none⟩)),(.pointer (some ⟨g,68+i * 14+10,none⟩)),(.pointer (some ⟨g,99+i * 22+18,none⟩))]:Array Value).toList 0 _ (b1.trans ((Below.refl w1.heap.size w1).drew.mono b1.size));have HZ:=hide (show _/\_ from⟨C2,b2⟩);clear C2 b2 q1 q2 q3;generalize w1.drew.setCells w.heap.size 0 (#[(.pointer (some ⟨g,68+i * 14+6,none⟩)),(.pointer (some ⟨g,68+i * 14+10,none⟩)),(.pointer (some ⟨g,99+i * 22+18,none⟩))]:Array Value).toList=w2 at *;go_simp;go_wp2;exact bodyPost_ret (v:=.agg #[(.pointer (some ⟨g,68+i * 14+6,none⟩)),(.pointer (some ⟨g,68+i * 14+10,none⟩)),(.pointer (some ⟨g,99+i * 22+18,none⟩))]) (results_cell_row results90 _ _ w.heap.size 168 #[(.pointer (some ⟨g,68+i * 14+6,none⟩)),(.pointer (some ⟨g,68+i * 14+10,none⟩)),(.pointer (some ⟨g,99+i * 22+18,none⟩))] (0,0) _ rfl HZ.out.1 underlying168 rfl (by kernel_rfl)) rfl ⟨rfl,HZ.out.2⟩
theorem q1f(g o:Nat)(l:Ln.Line)(v1:Value)(P:Nat->Prop)(w:World)(h1:z0I P w v1 1 16 (txC l.S))(c0:w.cell? ⟨g,o,none⟩=some v1)(c2:w.cell? ⟨g,o+2,none⟩=some (.int .i64 l.g))(h0:0<=l.g) :
  Calls prog 91 #[.pointer (some ⟨g,o,none⟩)] w fun e w'=>e=.returned (.string (z4a l))/\Below w.heap.size w w':=by
 obtain⟨A,C,rfl,R,-⟩:=z5s h1 (z2c l.S) (by decide)
 have hD:z4a l=if (l.S.length:Int)<=l.g then ByteArray.empty else l.S.getD l.g.toNat ByteArray.empty:=by unfold z4a;rfl
 generalize z4a l=D at *;have HD:=hide hD;have HR:=hide R;clear hD h1 R
 go_enter func91,ntmps91
 go_upto_region 1 with fail
 go_quiet (fail);simp only[Exit.then];apply_assumption;have hb:=below_drewN (Below.refl w.heap.size w) nq;have d0:(w.drewN nq).cell? ⟨g,o,none⟩=some (.slice A l.S.length C):=c0;have d2:(w.drewN nq).cell? ⟨g,o+2,none⟩=some (.int .i64 l.g):=c2;have HR1:Hid (Row (w.drewN nq) A l.S.length C 1 (txC l.S)):=⟨HR.out.len,HR.out.nil,HR.out.at_⟩;clear c0 c2 HR;generalize w.drewN nq=w1 at *;have HB:=hide hb;clear hb
 by_cases hle:(l.S.length:Int)<=l.g
 ·have hd:=HD.out.trans (if_pos hle);have HDD:=hide hd;clear hd HD;have hge:l.g≥(l.S.length:Int):=hle;go_wp2;go_ret;rw[HDD.out];exact⟨rfl,HB.out⟩
 ·have hd:=HD.out.trans (if_neg hle);obtain⟨k,hk⟩:∃ k:Nat,l.g=(k:Int):=⟨l.g.toNat,by omega⟩
  rw[hk]at d2 hd hle;have hkl:k<l.S.length:=by omega
  rw[Int.toNat_natCast]at hd;have hkI:(k:Int)<(l.S.length:Int):=by omega
  have hk0:(0:Int)<=(k:Int):=by omega
  have hA:∃ b off,A=some ⟨b,off,none⟩/\w1.cell? ⟨b,off+k,none⟩=some (.string (l.S.getD k ByteArray.empty)):=by
   cases A with
   | none=>have:=(HR1.out.nil rfl).1;omega
   | some ad =>
    have h:=HR1.out.at_ ad rfl k _ (z7x l.S k hkl);have h0':=HR1.out.at_ ad rfl 0 _ (z7x l.S 0 (by omega))
    obtain⟨b,off,sp⟩:=ad;have hs:sp=none:=by simpa [Addr.add] using World.cell?_spot h0'
    subst hs;rw[Addr.add_lit]at h;exact⟨b,off,rfl,h⟩
  obtain⟨b,off,rfl,hs⟩:=hA;generalize l.S.getD k ByteArray.empty=tx at *;have HDD:=hide hd;clear hd HD HR1
  go_upto_region 3 with fail
  go_quiet (fail);go_wp2;go_ret;rw[HDD.out]
  first | exact⟨rfl,below_drewN HB.out _⟩ | exact⟨rfl,HB.out⟩
theorem q1r(s:ByteArray)(w:World)(hs:s.size<=1000):Calls prog 92 #[.string s] w fun e w'=>e=.returned (.string (q2i s))/\Below w.heap.size w w':=by
 have HEN:=hide (Cd.z6L 3 1 0 ((s.size:Int)+1) [] [] none none 0 0 0 0 0 0 w ⟨by simp,by simp,fun h=>absurd h (by simp),fun h=>absurd h (by simp),fun i h=>absurd h (by simp),fun i h=>absurd h (by simp)⟩)
 have hw:IntKind.i64.wrap ((s.size:Int)+1)=(s.size:Int)+1:=z6D (by omega) (by omega)
 unfold q2i;generalize Cd.encS 3 1 0 ((s.size:Int)+1) [] []=E at *;generalize Cd.z0m 3 1 0 ((s.size:Int)+1) [] []=N at *
 go_enter func92,ntmps92
 go_wp2_with (go_at_call 122;refine HEN.out.mono ?_;rintro e w1⟨rfl,hb1⟩)
 go_ret;exact⟨rfl,hb1⟩
structure j7F(P:Nat->Prop)(w0:World)(l:Ln.Line)(gn:Nat)(ts:Array Value)(w:World):Prop where
 ex:∃ u1 u2,ts=#[u1,u2,.int .i64 l.g,.bool l.cl]/\z0I (fun b=>New P w0 0 b/\b≠gn) w u1 1 16 (txC l.S)/\z0I (fun b=>New P w0 0 b/\b≠gn) w u2 1 8 (inC l.D)
 cat:CAt 47 w gn ts
 bel:Below w0.heap.size w0 w
 le:w0.heap.size<=gn
def Z4':Array Value:=#[.slice none 0 0,.slice none 0 0,.int .i64 0,.bool false]
theorem z0I.sets{P:Nat->Prop}{w:World}{v:Value}{sz bts:Nat}{cs:List Value}(h:z0I P w v sz bts cs){g:Nat}(hg:¬ P g)(o:Nat)(vs:List Value):z0I P (w.setCells g o vs) v sz bts cs:=h.keep fun b hb _=>z1k (show b≠g from fun e=>hg (by rw[← e];exact hb)) vs o w
theorem z3b{P Q:Nat->Prop}{w w':World}{u1 u2:Value}{s t s' t':Nat}{a b:List Value}(h1:z0I P w u1 s t a)(h2:z0I Q w' u2 s' t' b)(n:Int)(c:Bool):(#[u1,u2,.int .i64 n,.bool c]:Array Value).all (·.oneCell')=true:=by
 obtain⟨A,k,C,D,rfl,-⟩:=h1;obtain⟨B,m,E,F,rfl,-⟩:=h2
 simp[Value.oneCell']
theorem z7p{P:Nat->Prop}{w0 wx w3:World}{l:Ln.Line}{u1 u2:Value}(h1:z0I (New (fun b=>P b/\b<w0.heap.size) wx 0) w3 u1 1 16 (txC l.S))(h2:z0I (New (fun b=>P b/\b<w0.heap.size) wx 0) w3 u2 1 8 (inC l.D))(hx:wx.heap.size=w0.heap.size)(hb:Below w0.heap.size w0 w3):j7F P w0 l w3.heap.size #[u1,u2,.int .i64 l.g,.bool l.cl] ((w3.alloc (.cells Z4' 47)).setCells w3.heap.size 0 (#[u1,u2,.int .i64 l.g,.bool l.cl]:Array Value).toList):=by
 have bS:Below w3.heap.size w3 ((w3.alloc (.cells Z4' 47)).setCells w3.heap.size 0 (#[u1,u2,.int .i64 l.g,.bool l.cl]:Array Value).toList):=z0b (Nat.le_refl _) _ _ _ (znw w3 _)
 have key:∀ b,b<w3.heap.size->New (fun b=>P b/\b<w0.heap.size) wx 0 b->New P w0 0 b/\b≠w3.heap.size:=fun b hl hp=>⟨by
  rcases hp with⟨hp,_⟩ | hp
  ·exact .inl hp
  ·exact .inr (by omega),by omega⟩
 exact⟨⟨u1,u2,rfl,(h1.mono key).over bS,(h2.mono key).over bS⟩,(CAt.new 47 w3 Z4').z0H rfl,zbt hb bS,hb.size⟩
theorem z7m{P:Nat->Prop}{w0 wx w3:World}{l:Ln.Line}{u1 u2:Value}(h1:z0I (New (fun b=>P b/\b<w0.heap.size) wx 0) w3 u1 1 16 (txC l.S))(h2:z0I (New (fun b=>P b/\b<w0.heap.size) wx 0) w3 u2 1 8 (inC l.D))(hx:wx.heap.size=w0.heap.size+1)(hb:Below w0.heap.size w0 w3)(hc:CAt 47 w3 w0.heap.size Z4'):j7F P w0 l w0.heap.size #[u1,u2,.int .i64 l.g,.bool l.cl] (w3.setCells w0.heap.size 0 (#[u1,u2,.int .i64 l.g,.bool l.cl]:Array Value).toList):=by
 have key:∀ b,b<w3.heap.size->New (fun b=>P b/\b<w0.heap.size) wx 0 b->New P w0 0 b/\b≠w0.heap.size:=fun b hl hp=>by
  rcases hp with⟨hp,_⟩ | hp
  ·exact⟨.inl hp,by omega⟩
  ·exact⟨.inr (by omega),by omega⟩
 exact⟨⟨u1,u2,rfl,z0I.sets (h1.mono key) (fun e=>e.2 rfl) _ _,z0I.sets (h2.mono key) (fun e=>e.2 rfl) _ _⟩,hc.z0H rfl,z0b (Nat.le_refl _) _ _ _ hb,Nat.le_refl _⟩
def j0w(a v:Value):Sem Unit:=Instr.storeAt 168 a v
theorem z4N(a v:Value):Instr.storeAt 168 a v=j0w a v:=rfl
theorem q0u(w1:World)(p q r:Value)(h:(#[p,q,r]:Array Value).all (·.oneCell')=true):∃ w2,(j0w (.pointer (some ⟨w1.heap.size,0,none⟩)) (.agg #[p,q,r])).run prog (w1.alloc (.cells #[.pointer none,.pointer none,.pointer none] 168))=.ok () w2/\CAt 168 w2 w1.heap.size #[p,q,r]/\Below w1.heap.size w1 w2:=by
 have R0:=CAt.new 168 w1 #[.pointer none,.pointer none,.pointer none];exact⟨_,run_storeAt_mid (P:=prog) _ _ 0 168 #[p,q,r] (R0.there 0 _ (Nat.le_refl _)) (by rw[q2T];rfl) h,R0.z0H rfl,z0b (Nat.le_refl _) _ _ _ (znw w1 _)⟩
theorem q1A(x:Wo)(v:WoV){i:Nat}(hi:i<2)(l:Ln.Line)(u1 u2:Value):At (wdC x v) (99+i * 22+14) (lnL (x.c i).out (v.c i).said (v.c i).due) (lnL l u1 u2) (wdC (z1M x i true l) (v.upd i { v.c i with said:=u1,due:=u2 })):=
 (q1L x v hi { x.c i with out:=l } { v.c i with said:=u1,due:=u2 }).nest (by simpa using q0b (x.c i) (v.c i) l u1 u2)
theorem q1u(x:Wo)(v:WoV){i:Nat}(hi:i<2)(l:Ln.Line)(u1 u2:Value):At (wdC x v) (68+i * 14+6) (lnL (x.p.L i).out (v.p.l i).said (v.p.l i).due) (lnL l u1 u2) (wdC (z1M x i false l) { v with p:=v.p.upd i { v.p.l i with said:=u1,due:=u2 } }):=by
 have h:=(z8y x v { x.p with L:=z0Q x.p.L i { x.p.L i with out:=l } } (v.p.upd i { v.p.l i with said:=u1,due:=u2 })).nest ((q7s x.p v.p hi { x.p.L i with out:=l } { v.p.l i with said:=u1,due:=u2 }).nest (q8Y (x.p.L i) (v.p.l i) l u1 u2))
 rw[show 2+(66+i * 14+6)=68+i * 14+6 by omega]at h
 exact h
theorem j0Z{P:Nat->Prop}{w:World}{g:Nat}{x:Wo}{v:WoV}(hI:WIn P w x v)(hg:¬ P g)(C0:CAt 98 w g (wdC x v)){i:Nat}(hi:i<2){l:Ln.Line}{u1 u2:Value}(h1:z0I P w u1 1 16 (txC l.S))(h2:z0I P w u2 1 8 (inC l.D)):z1a P w g (z1M x i true l) (w.setCells g (99+i * 22+14) (lnL l u1 u2)):=by
 have A3:Alt g w (w.setCells g (99+i * 22+14) (lnL l u1 u2)):=(Alt.refl g w).sets _ _;have h:=hI.new hg A3 0;refine⟨_,(q1A x v hi l u1 u2).sets C0,⟨h.p,fun k hk=>?_⟩,A3⟩
 show CIn _ _ (z2L x.c i { x.c i with out:=l } k) (if k=i then { v.c i with said:=u1,due:=u2 } else v.c k)
 unfold z2L
 by_cases e:k=i
 ·rw[if_pos e,if_pos e];have hc:=h.c i hi;have m:∀ b,b<(w.setCells g (99+i * 22+14) (lnL l u1 u2)).heap.size->(P b/\b<w.heap.size)->New P w 0 b:=fun b _ hb=>.inl hb;exact⟨hc.set,hc.pd,hc.rp,(z0I.sets (h1.mono (P':=fun b=>P b/\b<w.heap.size) fun b hl hp=>⟨hp,hl⟩) (fun e=>hg e.1) _ _).mono m,(z0I.sets (h2.mono (P':=fun b=>P b/\b<w.heap.size) fun b hl hp=>⟨hp,hl⟩) (fun e=>hg e.1) _ _).mono m⟩
 ·rw[if_neg e,if_neg e];exact h.c k hk
theorem q7o{P:Nat->Prop}{w:World}{g:Nat}{x:Wo}{v:WoV}(hI:WIn P w x v)(hg:¬ P g)(C0:CAt 98 w g (wdC x v)){i:Nat}(hi:i<2){l:Ln.Line}{u1 u2:Value}(h1:z0I P w u1 1 16 (txC l.S))(h2:z0I P w u2 1 8 (inC l.D)):z1a P w g (z1M x i false l) (w.setCells g (68+i * 14+6) (lnL l u1 u2)):=by
 have A3:Alt g w (w.setCells g (68+i * 14+6) (lnL l u1 u2)):=(Alt.refl g w).sets _ _;have h:=hI.new hg A3 0;refine⟨_,(q1u x v hi l u1 u2).sets C0,⟨⟨h.p.ws,h.p.set,fun k hk=>?_,h.p.q⟩,h.c⟩,A3⟩
 show z6c _ _ (z0Q x.p.L i { x.p.L i with out:=l } k) (if k=i then { v.p.l i with said:=u1,due:=u2 } else v.p.l k)
 unfold z0Q
 by_cases e:k=i
 ·rw[if_pos e,if_pos e];have hc:=h.p.lk i hi;have m:∀ b,b<(w.setCells g (68+i * 14+6) (lnL l u1 u2)).heap.size->(P b/\b<w.heap.size)->New P w 0 b:=fun b _ hb=>.inl hb;exact⟨hc.told,hc.done,(z0I.sets (h1.mono (P':=fun b=>P b/\b<w.heap.size) fun b hl hp=>⟨hp,hl⟩) (fun e=>hg e.1) _ _).mono m,(z0I.sets (h2.mono (P':=fun b=>P b/\b<w.heap.size) fun b hl hp=>⟨hp,hl⟩) (fun e=>hg e.1) _ _).mono m⟩
 ·rw[if_neg e,if_neg e];exact h.p.lk k hk
theorem z9V{w:World}{g:Nat}{x:Wo}{v:WoV}(h:CAt 98 w g (wdC x v)){i:Nat}(hi:i<2):w.cell? ⟨g,99+i * 22+18+1,none⟩=some (.int .i64 (x.c i).h1)/\w.cell? ⟨g,99+i * 22+18+2,none⟩=some (.int .i64 (x.c i).h2)/\w.cell? ⟨g,99+i * 22+18+3,none⟩=some (.int .i64 (x.c i).h3):=by
 rw[h.cell,h.cell,h.cell]
 match i,hi with
 | 0,_=>exact⟨rfl,rfl,rfl⟩
 | 1,_=>exact⟨rfl,rfl,rfl⟩
theorem q0m{w:World}{g:Nat}{x:Wo}{v:WoV}(h:CAt 98 w g (wdC x v)){i:Nat}(hi:i<2):w.cell? ⟨g,68+i * 14+10+1,none⟩=some (.int .i64 (x.p.L i).h1)/\w.cell? ⟨g,68+i * 14+10+2,none⟩=some (.int .i64 (x.p.L i).h2)/\w.cell? ⟨g,68+i * 14+10+3,none⟩=some (.int .i64 (x.p.L i).h3):=by
 rw[h.cell,h.cell,h.cell]
 match i,hi with
 | 0,_=>exact⟨rfl,rfl,rfl⟩
 | 1,_=>exact⟨rfl,rfl,rfl⟩
theorem z9l{w:World}{g o:Nat}{a b c d:Value}(h:w.rangeAt g o [a,b,c,d]):w.cell? ⟨g,o,none⟩=some a/\w.cell? ⟨g,o+2,none⟩=some c:=⟨by simpa using h 0 a rfl,h 2 c rfl⟩
end Wd
end Go.Proofs.YtmopekkhmhhcaaaGreat
