/- Parts of the proof. -/
import Derived.Test.YtmopekkhmhhcaaaGreatFL
import Derived.Test.YtmopekkhmhhcaaaGreatFK30
set_option maxRecDepth 100000
set_option maxHeartbeats 16000000
namespace Go.Proofs.YtmopekkhmhhcaaaGreat
open Go.Proofs.Tryz
section
open Go.RowKit
theorem q1G(f0 f1 f2 f3 bo wa bu n:Int)(c:Nat)(tv:Value)(w:World)(hc:w.cell? ⟨c,0,none⟩=some (.int .i64 0))(hcl:c<w.heap.size)(hg:z1z f0 f1 f2 f3 bo wa bu=true)(hn0:0<=n)(hn1:n<=1125899906842624)(hle:f0<n) :
  Calls prog 150 #[.agg #[.int .i64 f0,.int .i64 f1,.int .i64 f2,.int .i64 f3,.int .i64 bo,.int .i64 wa,.int .i64 bu],(.func (.func 172) #[] #[.pointer (some ⟨c,0,none⟩)]),tv,.int .i64 n] w fun e w'=>e=.returned (.tuple #[.agg #[.int .i64 f0,.int .i64 f1,.int .i64 f2,.int .i64 f3,.int .i64 bo,.int .i64 wa,.int .i64 bu],.int .i64 7])/\Below w.heap.size w w':=by
 have hG:=z0o f0 f1 f2 f3 bo wa bu;rw[hg]at hG;have hI:=z1u n;rw[decide_eq_true ⟨hn0,hn1⟩]at hI;clear hg hn0 hn1
 go_enter func150,ntmps150
 go_wp2_with fail
 refine (hG _).mono ?_;rintro e w1⟨rfl,hb⟩;obtain⟨B1,R1,HB⟩:=z1w hb;clear hb;have hc2:w1.cell? ⟨c,0,none⟩=some (.int .i64 0):=(HB.out.cell hcl).trans hc;clear hc hcl;obtain⟨x0,x1,x2,x3,x4,x5,x6⟩:=B1.cells;obtain⟨u0,u1,u2,u3,u4,u5,u6⟩:=R1.frees;obtain⟨v0,v1,v2,v3,v4,v5,v6⟩:=R1.cells;have HR1:Hid (BAt w1 (w.heap.size+1) 0 0 0 0 0 0 0):=R1;clear B1 R1
 go_wp2_with (first
  | (go_at_call 147;refine (hI _).mono ?_;rintro e w2⟨rfl,rfl⟩)
  | (go_at_call 172;refine (z1i _ c 0 _ (by exact hc2) (by decide) (by decide)).mono ?_;rintro e w2⟨rfl,nq,rfl⟩))
 exact z0S (wq:=w1.drewN _) HR1.out (below_drewN HB.out _) f0 f1 f2 f3 bo wa bu 7 _ rfl rfl rfl
theorem q1a(f0 f1 f2 f3 bo wa bu n:Int)(c:Nat)(tv:Value)(w:World)(hc:w.cell? ⟨c,0,none⟩=some (.int .i64 1))(hcl:c<w.heap.size)(hg:z1z f0 f1 f2 f3 bo wa bu=true)(hn0:0<=n)(hn1:n<=1125899906842624)(hle:f1<n) :
  Calls prog 150 #[.agg #[.int .i64 f0,.int .i64 f1,.int .i64 f2,.int .i64 f3,.int .i64 bo,.int .i64 wa,.int .i64 bu],(.func (.func 172) #[] #[.pointer (some ⟨c,0,none⟩)]),tv,.int .i64 n] w fun e w'=>e=.returned (.tuple #[.agg #[.int .i64 f0,.int .i64 f1,.int .i64 f2,.int .i64 f3,.int .i64 bo,.int .i64 wa,.int .i64 bu],.int .i64 7])/\Below w.heap.size w w':=by
 have hG:=z0o f0 f1 f2 f3 bo wa bu;rw[hg]at hG;have hI:=z1u n;rw[decide_eq_true ⟨hn0,hn1⟩]at hI;clear hg hn0 hn1
 go_enter func150,ntmps150
 go_wp2_with fail
 refine (hG _).mono ?_;rintro e w1⟨rfl,hb⟩;obtain⟨B1,R1,HB⟩:=z1w hb;clear hb;have hc2:w1.cell? ⟨c,0,none⟩=some (.int .i64 1):=(HB.out.cell hcl).trans hc;clear hc hcl;obtain⟨x0,x1,x2,x3,x4,x5,x6⟩:=B1.cells;obtain⟨u0,u1,u2,u3,u4,u5,u6⟩:=R1.frees;obtain⟨v0,v1,v2,v3,v4,v5,v6⟩:=R1.cells;have HR1:Hid (BAt w1 (w.heap.size+1) 0 0 0 0 0 0 0):=R1;clear B1 R1
 go_wp2_with (first
  | (go_at_call 147;refine (hI _).mono ?_;rintro e w2⟨rfl,rfl⟩)
  | (go_at_call 172;refine (z1i _ c 1 _ (by exact hc2) (by decide) (by decide)).mono ?_;rintro e w2⟨rfl,nq,rfl⟩))
 exact z0S (wq:=w1.drewN _) HR1.out (below_drewN HB.out _) f0 f1 f2 f3 bo wa bu 7 _ rfl rfl rfl
theorem q1o(f0 f1 f2 f3 bo wa bu n:Int)(c:Nat)(tv:Value)(w:World)(hc:w.cell? ⟨c,0,none⟩=some (.int .i64 2))(hcl:c<w.heap.size)(hg:z1z f0 f1 f2 f3 bo wa bu=true)(hn0:0<=n)(hn1:n<=1125899906842624)(hle:f2<n) :
  Calls prog 150 #[.agg #[.int .i64 f0,.int .i64 f1,.int .i64 f2,.int .i64 f3,.int .i64 bo,.int .i64 wa,.int .i64 bu],(.func (.func 172) #[] #[.pointer (some ⟨c,0,none⟩)]),tv,.int .i64 n] w fun e w'=>e=.returned (.tuple #[.agg #[.int .i64 f0,.int .i64 f1,.int .i64 f2,.int .i64 f3,.int .i64 bo,.int .i64 wa,.int .i64 bu],.int .i64 7])/\Below w.heap.size w w':=by
 have hG:=z0o f0 f1 f2 f3 bo wa bu;rw[hg]at hG;have hI:=z1u n;rw[decide_eq_true ⟨hn0,hn1⟩]at hI;clear hg hn0 hn1
 go_enter func150,ntmps150
 go_wp2_with fail
 refine (hG _).mono ?_;rintro e w1⟨rfl,hb⟩;obtain⟨B1,R1,HB⟩:=z1w hb;clear hb;have hc2:w1.cell? ⟨c,0,none⟩=some (.int .i64 2):=(HB.out.cell hcl).trans hc;clear hc hcl;obtain⟨x0,x1,x2,x3,x4,x5,x6⟩:=B1.cells;obtain⟨u0,u1,u2,u3,u4,u5,u6⟩:=R1.frees;obtain⟨v0,v1,v2,v3,v4,v5,v6⟩:=R1.cells;have HR1:Hid (BAt w1 (w.heap.size+1) 0 0 0 0 0 0 0):=R1;clear B1 R1
 go_wp2_with (first
  | (go_at_call 147;refine (hI _).mono ?_;rintro e w2⟨rfl,rfl⟩)
  | (go_at_call 172;refine (z1i _ c 2 _ (by exact hc2) (by decide) (by decide)).mono ?_;rintro e w2⟨rfl,nq,rfl⟩))
 exact z0S (wq:=w1.drewN _) HR1.out (below_drewN HB.out _) f0 f1 f2 f3 bo wa bu 7 _ rfl rfl rfl
theorem q0T(f0 f1 f2 f3 bo wa bu n:Int)(c:Nat)(tv:Value)(w:World)(hc:w.cell? ⟨c,0,none⟩=some (.int .i64 3))(hcl:c<w.heap.size)(hg:z1z f0 f1 f2 f3 bo wa bu=true)(hn0:0<=n)(hn1:n<=1125899906842624)(hle:f3<n) :
  Calls prog 150 #[.agg #[.int .i64 f0,.int .i64 f1,.int .i64 f2,.int .i64 f3,.int .i64 bo,.int .i64 wa,.int .i64 bu],(.func (.func 172) #[] #[.pointer (some ⟨c,0,none⟩)]),tv,.int .i64 n] w fun e w'=>e=.returned (.tuple #[.agg #[.int .i64 f0,.int .i64 f1,.int .i64 f2,.int .i64 f3,.int .i64 bo,.int .i64 wa,.int .i64 bu],.int .i64 7])/\Below w.heap.size w w':=by
 have hG:=z0o f0 f1 f2 f3 bo wa bu;rw[hg]at hG;have hI:=z1u n;rw[decide_eq_true ⟨hn0,hn1⟩]at hI;clear hg hn0 hn1
 go_enter func150,ntmps150
 go_wp2_with fail
 refine (hG _).mono ?_;rintro e w1⟨rfl,hb⟩;obtain⟨B1,R1,HB⟩:=z1w hb;clear hb;have hc2:w1.cell? ⟨c,0,none⟩=some (.int .i64 3):=(HB.out.cell hcl).trans hc;clear hc hcl;obtain⟨x0,x1,x2,x3,x4,x5,x6⟩:=B1.cells;obtain⟨u0,u1,u2,u3,u4,u5,u6⟩:=R1.frees;obtain⟨v0,v1,v2,v3,v4,v5,v6⟩:=R1.cells;have HR1:Hid (BAt w1 (w.heap.size+1) 0 0 0 0 0 0 0):=R1;clear B1 R1
 go_wp2_with (first
  | (go_at_call 147;refine (hI _).mono ?_;rintro e w2⟨rfl,rfl⟩)
  | (go_at_call 172;refine (z1i _ c 3 _ (by exact hc2) (by decide) (by decide)).mono ?_;rintro e w2⟨rfl,nq,rfl⟩))
 exact z0S (wq:=w1.drewN _) HR1.out (below_drewN HB.out _) f0 f1 f2 f3 bo wa bu 7 _ rfl rfl rfl
theorem z6Z(f0 f1 f2 f3 bo wa bu n:Int)(tv:Value)(w:World)(hg:z1z f0 f1 f2 f3 bo wa bu=true)(hn0:0<=n)(hn1:n<=1125899906842624)(hle:bo<n) :
  Calls prog 150 #[.agg #[.int .i64 f0,.int .i64 f1,.int .i64 f2,.int .i64 f3,.int .i64 bo,.int .i64 wa,.int .i64 bu],(.func (.func 173) #[] #[]),tv,.int .i64 n] w fun e w'=>e=.returned (.tuple #[.agg #[.int .i64 f0,.int .i64 f1,.int .i64 f2,.int .i64 f3,.int .i64 bo,.int .i64 wa,.int .i64 bu],.int .i64 7])/\Below w.heap.size w w':=by
 have hG:=z0o f0 f1 f2 f3 bo wa bu;rw[hg]at hG;have hI:=z1u n;rw[decide_eq_true ⟨hn0,hn1⟩]at hI;clear hg hn0 hn1
 go_enter func150,ntmps150
 go_wp2_with fail
 refine (hG _).mono ?_;rintro e w1⟨rfl,hb⟩;obtain⟨B1,R1,HB⟩:=z1w hb;clear hb;obtain⟨x0,x1,x2,x3,x4,x5,x6⟩:=B1.cells;obtain⟨u0,u1,u2,u3,u4,u5,u6⟩:=R1.frees;obtain⟨v0,v1,v2,v3,v4,v5,v6⟩:=R1.cells;have HR1:Hid (BAt w1 (w.heap.size+1) 0 0 0 0 0 0 0):=R1;clear B1 R1
 go_wp2_with (first
  | (go_at_call 147;refine (hI _).mono ?_;rintro e w2⟨rfl,rfl⟩)
  | (go_at_call 173;refine (z1v _ _).mono ?_;rintro e w2⟨rfl,rfl⟩))
 exact z0S HR1.out HB.out f0 f1 f2 f3 bo wa bu 7 _ rfl rfl rfl
theorem z2Y(f0 f1 f2 f3 bo wa bu n:Int)(tv:Value)(w:World)(hg:z1z f0 f1 f2 f3 bo wa bu=true)(hn0:0<=n)(hn1:n<=1125899906842624)(hle:wa<n) :
  Calls prog 150 #[.agg #[.int .i64 f0,.int .i64 f1,.int .i64 f2,.int .i64 f3,.int .i64 bo,.int .i64 wa,.int .i64 bu],(.func (.func 174) #[] #[]),tv,.int .i64 n] w fun e w'=>e=.returned (.tuple #[.agg #[.int .i64 f0,.int .i64 f1,.int .i64 f2,.int .i64 f3,.int .i64 bo,.int .i64 wa,.int .i64 bu],.int .i64 7])/\Below w.heap.size w w':=by
 have hG:=z0o f0 f1 f2 f3 bo wa bu;rw[hg]at hG;have hI:=z1u n;rw[decide_eq_true ⟨hn0,hn1⟩]at hI;clear hg hn0 hn1
 go_enter func150,ntmps150
 go_wp2_with fail
 refine (hG _).mono ?_;rintro e w1⟨rfl,hb⟩;obtain⟨B1,R1,HB⟩:=z1w hb;clear hb;obtain⟨x0,x1,x2,x3,x4,x5,x6⟩:=B1.cells;obtain⟨u0,u1,u2,u3,u4,u5,u6⟩:=R1.frees;obtain⟨v0,v1,v2,v3,v4,v5,v6⟩:=R1.cells;have HR1:Hid (BAt w1 (w.heap.size+1) 0 0 0 0 0 0 0):=R1;clear B1 R1
 go_wp2_with (first
  | (go_at_call 147;refine (hI _).mono ?_;rintro e w2⟨rfl,rfl⟩)
  | (go_at_call 174;refine (z1h _ _).mono ?_;rintro e w2⟨rfl,rfl⟩))
 exact z0S HR1.out HB.out f0 f1 f2 f3 bo wa bu 7 _ rfl rfl rfl
theorem z0B(f0 f1 f2 f3 bo wa bu n:Int)(fv tv:Value)(w:World)(hg:z1z f0 f1 f2 f3 bo wa bu=false) :
  Calls prog 150 #[.agg #[.int .i64 f0,.int .i64 f1,.int .i64 f2,.int .i64 f3,.int .i64 bo,.int .i64 wa,.int .i64 bu],fv,tv,.int .i64 n] w fun e w'=>e=.returned (.tuple #[.agg #[.int .i64 f0,.int .i64 f1,.int .i64 f2,.int .i64 f3,.int .i64 bo,.int .i64 wa,.int .i64 bu],.int .i64 2])/\Below w.heap.size w w':=by
 have hG:=z0o f0 f1 f2 f3 bo wa bu;rw[hg]at hG;clear hg
 go_enter func150,ntmps150
 go_wp2_with fail
 refine (hG _).mono ?_;rintro e w1⟨rfl,hb⟩;obtain⟨B1,R1,HB⟩:=z1w hb;clear hb;obtain⟨x0,x1,x2,x3,x4,x5,x6⟩:=B1.cells;obtain⟨u0,u1,u2,u3,u4,u5,u6⟩:=R1.frees;obtain⟨v0,v1,v2,v3,v4,v5,v6⟩:=R1.cells;have HR1:Hid (BAt w1 (w.heap.size+1) 0 0 0 0 0 0 0):=R1;clear B1 R1;go_wp2;exact z0S HR1.out HB.out f0 f1 f2 f3 bo wa bu 2 _ rfl rfl rfl
theorem z0J(f0 f1 f2 f3 bo wa bu n:Int)(fv tv:Value)(w:World)(hg:z1z f0 f1 f2 f3 bo wa bu=true)(hn:¬ (0<=n/\n<=1125899906842624)) :
  Calls prog 150 #[.agg #[.int .i64 f0,.int .i64 f1,.int .i64 f2,.int .i64 f3,.int .i64 bo,.int .i64 wa,.int .i64 bu],fv,tv,.int .i64 n] w fun e w'=>e=.returned (.tuple #[.agg #[.int .i64 f0,.int .i64 f1,.int .i64 f2,.int .i64 f3,.int .i64 bo,.int .i64 wa,.int .i64 bu],.int .i64 2])/\Below w.heap.size w w':=by
 have hG:=z0o f0 f1 f2 f3 bo wa bu;rw[hg]at hG;clear hg;have hI:=z1u n;rw[decide_eq_false hn]at hI;clear hn
 go_enter func150,ntmps150
 go_wp2_with fail
 refine (hG _).mono ?_;rintro e w1⟨rfl,hb⟩;obtain⟨B1,R1,HB⟩:=z1w hb;clear hb;obtain⟨x0,x1,x2,x3,x4,x5,x6⟩:=B1.cells;obtain⟨u0,u1,u2,u3,u4,u5,u6⟩:=R1.frees;obtain⟨v0,v1,v2,v3,v4,v5,v6⟩:=R1.cells;have HR1:Hid (BAt w1 (w.heap.size+1) 0 0 0 0 0 0 0):=R1;clear B1 R1
 go_wp2_with (go_at_call 147;refine (hI _).mono ?_;rintro e w2⟨rfl,rfl⟩)
 exact z0S HR1.out HB.out f0 f1 f2 f3 bo wa bu 2 _ rfl rfl rfl
theorem q3E{w wq:World}(R:BAt wq (w.heap.size+1) 0 0 0 0 0 0 0)(H:Below w.heap.size w wq)(r0 r1 r2 r3 r4 r5 r6 er:Int)(act:Act)
  (h8:act.tmps.getD 6 undef=.pointer (some ⟨w.heap.size+1,0,none⟩)) (h9:act.tmps.getD 7 undef=.int .i64 er) (hd:act.defers=[]) :
  bodyPost prog f107 (fun e w'=>e=.returned (.tuple #[.agg #[.int .i64 r0,.int .i64 r1,.int .i64 r2,.int .i64 r3,.int .i64 r4,.int .i64 r5,.int .i64 r6],.int .i64 er])/\Below w.heap.size w w') Exit.ret act
   (z6Y wq (w.heap.size+1) r0 r1 r2 r3 r4 r5 r6):=by
 have HR:=R.z6Y r0 r1 r2 r3 r4 r5 r6;have HW:=z3i (b:=w.heap.size+1) H (by omega) r0 r1 r2 r3 r4 r5 r6
 generalize z6Y wq (w.heap.size+1) r0 r1 r2 r3 r4 r5 r6=w9 at *;obtain⟨u0,u1,u2,u3,u4,u5,u6⟩:=HR.cells;have h8':act.tmps[6]?.getD undef=.pointer (some ⟨w.heap.size+1,0,none⟩):=by simpa using h8
 have h9':act.tmps[7]?.getD undef=.int .i64 er:=by simpa using h9
 exact bodyPost_ret (v:=.tuple #[.agg #[.int .i64 r0,.int .i64 r1,.int .i64 r2,.int .i64 r3,.int .i64 r4,.int .i64 r5,.int .i64 r6],.int .i64 er]) (by simp[results,results107,go_sem,h8',h9',u0,u1,u2,u3,u4,u5,u6]) hd ⟨rfl,HW⟩
theorem j0X(f0 f1 f2 f3 bo wa bu d n r0 r1 r2 r3 r4 r5 r6 er:Int)(w:World)(h0:0<=d)(h1:d<4)
  (hmv:∀ (c:Nat) (w:World),w.cell? ⟨c,0,none⟩=some (.int .i64 d)->c<w.heap.size->Calls prog 150 #[.agg #[.int .i64 f0,.int .i64 f1,.int .i64 f2,.int .i64 f3,.int .i64 bo,.int .i64 wa,.int .i64 bu],.func (.func 172) #[] #[.pointer (some ⟨c,0,none⟩)],.func (.func 173) #[] #[],.int .i64 n] w
   fun e w'=>e=.returned (.tuple #[.agg #[.int .i64 r0,.int .i64 r1,.int .i64 r2,.int .i64 r3,.int .i64 r4,.int .i64 r5,.int .i64 r6],.int .i64 er])/\Below w.heap.size w w') :
  Calls prog 107 #[.agg #[.int .i64 f0,.int .i64 f1,.int .i64 f2,.int .i64 f3,.int .i64 bo,.int .i64 wa,.int .i64 bu],.int .i64 d,.int .i64 n] w
   fun e w'=>e=.returned (.tuple #[.agg #[.int .i64 r0,.int .i64 r1,.int .i64 r2,.int .i64 r3,.int .i64 r4,.int .i64 r5,.int .i64 r6],.int .i64 er])/\Below w.heap.size w w':=by
 have hD:=z6a d;rw[decide_eq_true ⟨h0,h1⟩]at hD
 go_enter func107,ntmps107
 go_wp2_with (go_at_call 149;refine (hD _).mono ?_;rintro e w2⟨rfl,rfl⟩)
 have R0:BAt ((w.alloc (.cells #[.int .i64 f0,.int .i64 f1,.int .i64 f2,.int .i64 f3,.int .i64 bo,.int .i64 wa,.int .i64 bu] 35)).alloc (.cells #[.int .i64 0,.int .i64 0,.int .i64 0,.int .i64 0,.int .i64 0,.int .i64 0,.int .i64 0] 35)) (w.heap.size+1) 0 0 0 0 0 0 0:=by
  have:=BAt.new (w.alloc (.cells #[.int .i64 f0,.int .i64 f1,.int .i64 f2,.int .i64 f3,.int .i64 bo,.int .i64 wa,.int .i64 bu] 35)) 0 0 0 0 0 0 0
  simpa using this
 have B0:=((BAt.new w f0 f1 f2 f3 bo wa bu).alloc (.cells #[.int .i64 0,.int .i64 0,.int .i64 0,.int .i64 0,.int .i64 0,.int .i64 0,.int .i64 0] 35));have HB:Hid (Below w.heap.size w ((w.alloc (.cells #[.int .i64 f0,.int .i64 f1,.int .i64 f2,.int .i64 f3,.int .i64 bo,.int .i64 wa,.int .i64 bu] 35)).alloc (.cells #[.int .i64 0,.int .i64 0,.int .i64 0,.int .i64 0,.int .i64 0,.int .i64 0,.int .i64 0] 35))):=((znw w _).alloc (by simp) _)
 generalize (w.alloc (.cells #[.int .i64 f0,.int .i64 f1,.int .i64 f2,.int .i64 f3,.int .i64 bo,.int .i64 wa,.int .i64 bu] 35)).alloc (.cells #[.int .i64 0,.int .i64 0,.int .i64 0,.int .i64 0,.int .i64 0,.int .i64 0,.int .i64 0] 35)=w0 at *;obtain⟨x0,x1,x2,x3,x4,x5,x6⟩:=B0.cells;have hz0:w.heap.size<w0.heap.size:=B0.lt;have hz1:w.heap.size+1<w0.heap.size:=R0.lt;clear B0
 go_region_with (first
  | (go_at_call 151;refine (z6A _ _).mono ?_;rintro e w2⟨rfl,rfl⟩)
  | (go_at_call 152;refine (z4Q _).mono ?_;rintro e w2⟨rfl,rfl⟩)
  | (go_at_call 150;refine (hmv w0.heap.size _ (by simp) (by simp)).mono ?_;rintro e w5⟨rfl,hb5⟩;have R5:BAt w5 (w.heap.size+1) 0 0 0 0 0 0 0:=(hb5.block _ (by simp;omega)).trans (R0.alloc (.cells #[.int .i64 d] 3));have HB5:Hid (Below w.heap.size w w5):=((HB.out.alloc (Nat.le_of_lt hz0) (.cells #[.int .i64 d] 3)).drew).trans (hb5.mono (by simp;omega));obtain⟨u0,u1,u2,u3,u4,u5,u6⟩:=R5.frees;obtain⟨v0,v1,v2,v3,v4,v5,v6⟩:=R5.cells;have HR5:Hid (BAt w5 (w.heap.size+1) 0 0 0 0 0 0 0):=R5;clear R5 hb5))
 all_goals
  go_wp2;exact q3E HR5.out HB5.out r0 r1 r2 r3 r4 r5 r6 er _ rfl rfl rfl
theorem j7d(f0 f1 f2 f3 bo wa bu d n:Int)(w:World)(h:¬ (0<=d/\d<4)) :
  Calls prog 107 #[.agg #[.int .i64 f0,.int .i64 f1,.int .i64 f2,.int .i64 f3,.int .i64 bo,.int .i64 wa,.int .i64 bu],.int .i64 d,.int .i64 n] w
   fun e w'=>e=.returned (.tuple #[.agg #[.int .i64 f0,.int .i64 f1,.int .i64 f2,.int .i64 f3,.int .i64 bo,.int .i64 wa,.int .i64 bu],.int .i64 4])/\Below w.heap.size w w':=by
 have hD:=z6a d;rw[decide_eq_false h]at hD;clear h
 go_enter func107,ntmps107
 go_wp2_with fail
 have R0:BAt ((w.alloc (.cells #[.int .i64 f0,.int .i64 f1,.int .i64 f2,.int .i64 f3,.int .i64 bo,.int .i64 wa,.int .i64 bu] 35)).alloc (.cells #[.int .i64 0,.int .i64 0,.int .i64 0,.int .i64 0,.int .i64 0,.int .i64 0,.int .i64 0] 35)) (w.heap.size+1) 0 0 0 0 0 0 0:=by
  have:=BAt.new (w.alloc (.cells #[.int .i64 f0,.int .i64 f1,.int .i64 f2,.int .i64 f3,.int .i64 bo,.int .i64 wa,.int .i64 bu] 35)) 0 0 0 0 0 0 0
  simpa using this
 have B0:=((BAt.new w f0 f1 f2 f3 bo wa bu).alloc (.cells #[.int .i64 0,.int .i64 0,.int .i64 0,.int .i64 0,.int .i64 0,.int .i64 0,.int .i64 0] 35));have HB:Hid (Below w.heap.size w ((w.alloc (.cells #[.int .i64 f0,.int .i64 f1,.int .i64 f2,.int .i64 f3,.int .i64 bo,.int .i64 wa,.int .i64 bu] 35)).alloc (.cells #[.int .i64 0,.int .i64 0,.int .i64 0,.int .i64 0,.int .i64 0,.int .i64 0,.int .i64 0] 35))):=((znw w _).alloc (by simp) _)
 generalize (w.alloc (.cells #[.int .i64 f0,.int .i64 f1,.int .i64 f2,.int .i64 f3,.int .i64 bo,.int .i64 wa,.int .i64 bu] 35)).alloc (.cells #[.int .i64 0,.int .i64 0,.int .i64 0,.int .i64 0,.int .i64 0,.int .i64 0,.int .i64 0] 35)=w0 at *;obtain⟨x0,x1,x2,x3,x4,x5,x6⟩:=B0.cells;have hz0:w.heap.size<w0.heap.size:=B0.lt;have hz1:w.heap.size+1<w0.heap.size:=R0.lt;obtain⟨u0,u1,u2,u3,u4,u5,u6⟩:=R0.frees;obtain⟨v0,v1,v2,v3,v4,v5,v6⟩:=R0.cells;have HR5:Hid (BAt w0 (w.heap.size+1) 0 0 0 0 0 0 0):=R0;clear B0 R0
 go_wp2_with (go_at_call 149;refine (hD _).mono ?_;rintro e w2⟨rfl,rfl⟩)
 exact q3E HR5.out HB.out f0 f1 f2 f3 bo wa bu 4 _ rfl rfl rfl
end
end Go.Proofs.YtmopekkhmhhcaaaGreat
