/- Part 37 of a proof: walks of the program. -/
import Derived.Test.YtodcnkbblippnaaGreatDoorPart33
import Derived.Test.YtodcnkbblippnaaGreatDoorPart36
namespace Go.Proofs.YtodcnkbblippnaaGreatDoor
set_option maxRecDepth 100000
set_option maxHeartbeats 32000000
set_option linter.defProp false
open Go.Proofs.Tryz
section
open Go.RowKit
def ZV(s:Nat)(a:Int)(l:Bs):(Ee s a l).2=0\/(Ee s a l).2=7:=by
 unfold Ee;split
 ·exact .inl rfl
 ·split
  ·split
   ·exact .inl rfl
   ·exact .inr rfl
  ·exact .inr rfl
section
variable{P P':PD}{A:Ar}{ps pl:gh Pu}{sg:gh (Int×gh Pu)}{N R:Nat}
def Ta:∀(l:gh Int) (d:gh Pu),(∀n∈l,P.bs (Af n)≠none)->(P.a1 l d).2=0\/(P.a1 l d).2=7
 | [],_,_=>.inl rfl
 | n::r,d,h=>by
  unfold PD.a1;cases hb:P.bs (Af n) with
  | none=>exact absurd hb (h n (Bt ..))
  | some c=>
   rw[MY hb];split
   ·exact(ZV ..).imp (λh=>h) λh=>h
   ·exact Ta r _ λm z=>h m (Bp _ z)
def Uq{first n:Int}(h:n∈Br first P.Ai):isNum n=true/\first<=n/\P.bs (Af n)≠none:=by
 unfold Br at h;obtain⟨nm,H,d⟩:=KP.1 h;split at d
 ·rename_i E;simp at d;subst d;have z:=LB E.1;refine⟨by unfold isNum;simp;exact z.1,E.2,?_⟩;rw[z.2];exact Es.1 H
 ·cases d
def A0K{n:Int}(h:Ar.aT P=.error n):n=7:=by
 cases hi:P.CK with
 | none=>rw[Lx hi]at h;cases h;rfl
 | some ix=>
  cases hb:P.Ai.any (λnm=>decide ((Ba nm).1=0)) with
  | true=>rw[MT hi hb]at h;cases h;rfl
  | false=>
   cases hs:P.sd ix.sd with
   | none=>rw[Lu hi hb hs]at h;cases h;rfl
   | some sg=>
    by_cases d:(P.pd (Br ix.AZ P.Ai)).2=0
    ·rw[Lw hi hb hs d]at h;cases h
    ·rw[Lv hi hb hs d]at h;cases h;exact(Ta _ [] λm z=>(Uq z).2.2).resolve_left d
structure NF (P:PD) (A:Ar) (sg:gh (Int×gh Pu)) (pl:gh Pu):Prop where
 CK:P.CK=some A.ix
 Ef:∀nm,P.bs nm≠none->(Ba nm).1≠0
 sd:P.sd A.ix.sd=some sg
 pd:P.pd A.j.Ak=(pl,0)
 AE:A.j.AE=none
 A5q:A.j.pd=(pl.length:Int)
 Ak:A.j.Ak=Br A.ix.AZ P.Ai
 EB:A.j.A8=A.j.Ak.getLastD (A.ix.AZ-1)
 Ep:A.A8=(FJ P.Ai).getLastD 0
 AN:∀nm∈A.AN,P.bs nm≠none
 Vi:A.AN.length<=P.Ai.length
def A0H(h:Ar.aT P=.ok (A,ps)):∃sg pl,NF P A sg pl/\ps=sg.flatMap (·.2)++pl:=by
 cases hi:P.CK with
 | none=>rw[Lx hi]at h;cases h
 | some ix=>
  cases hb:P.Ai.any (λnm=>decide ((Ba nm).1=0)) with
  | true=>rw[MT hi hb]at h;cases h
  | false=>
   cases hs:P.sd ix.sd with
   | none=>rw[Lu hi hb hs]at h;cases h
   | some sg=>
    by_cases d:(P.pd (Br ix.AZ P.Ai)).2=0
    ·rw[Lw hi hb hs d]at h;simp only[Except.ok.injEq,Prod.mk.injEq]at h;obtain⟨rfl,rfl⟩:=h;refine⟨sg,_,⟨hi,λnm z=>?_,hs,Prod.ext rfl d,rfl,rfl,rfl,rfl,rfl,λnm z=>Es.1 (GX.1 z).1,J8 _ _⟩,rfl⟩;have:=List.any_eq_false.1 hb nm (Es.2 z);simpa using this
    ·rw[Lv hi hb hs d]at h;cases h
end
def O6{l es:gh UInt8}(d:l.length=es.length)(h:BD es=0):Cu l es=l:=
 LK (by simp[Cu,d]) (by rw[Kg l es d,h,Nat.xor_zero])
def L4{a b c d:gh UInt8}(h:a.length=c.length):Cu (a++b) (c++d)=Cu a c++Cu b d:=by unfold Cu;rw[List.zipWith_append h]
def Hw{l es:gh UInt8}(d:l.length=es.length):(Cu l es).length=l.length:=by simp[Cu,d]
def VW{a b:gh UInt8}(h:Hv (a++b)):Hv a:=by
 obtain⟨k,m,e,E⟩:=h;have z:BD a=2 ^ k*m % 2 ^ (8*a.length):=by
  rw[<-e,PA,show (256:Nat)=2 ^ 8 from rfl,<-Nat.pow_mul,Nat.add_mul_mod_self_left,Nat.mod_eq_of_lt];have:=Pz a
  rwa [show (256:Nat)=2 ^ 8 from rfl,<-Nat.pow_mul]at this
 by_cases hk:k<=8*a.length
 ·obtain⟨j,d⟩:∃j,8*a.length=k+j:=⟨8*a.length-k,by omega⟩;refine⟨k,m % 2 ^ j,?_,WH (Nat.mod_le ..) E⟩;rw[z,d,Nat.pow_add,Nat.mul_mod_mul_left]
 ·obtain⟨j,d⟩:∃j,k=8*a.length+j:=⟨k-8*a.length,by omega⟩;refine⟨0,0,?_,by decide⟩;rw[z,d,Nat.pow_add,J5,Nat.mul_mod_right]
def VV{a b:gh UInt8}(h:Hv (a++b))(H:BD a=0):Hv b:=by
 obtain⟨k,m,e,E⟩:=h;rw[PA,H,GF,show (256:Nat)=2 ^ 8 from rfl,<-Nat.pow_mul]at e;have z:0<2 ^ (8*a.length):=Nat.pow_pos (by decide);by_cases hk:k<=8*a.length
 ·obtain⟨j,d⟩:∃j,8*a.length=k+j:=⟨8*a.length-k,by omega⟩;rw[d,Nat.pow_add,J5]at e;have e2:=Nat.eq_of_mul_eq_mul_left (Nat.pow_pos (by decide)) e;refine⟨0,BD b,by simp,?_⟩;have:BD b<=2 ^ j*BD b:=Nat.le_mul_of_pos_left _ (Nat.pow_pos (by decide));omega
 ·obtain⟨j,d⟩:∃j,k=8*a.length+j:=⟨k-8*a.length,by omega⟩;rw[d,Nat.pow_add,J5]at e;exact⟨j,m,Nat.eq_of_mul_eq_mul_left z e,E⟩
def K8{es:gh UInt8}{n:Nat}(h:n<=es.length):∃a b,es=a++b/\a.length=n:=⟨es.take n,es.drop n,(DU ..).symm,by simp;omega⟩
def SY:∀(k s:Nat) (l es:gh UInt8),s<4294967296->l.length=es.length->Hv es->(Da k s l).2=true->Da k s (Cu l es)=Da k s l\/(Da k s (Cu l es)).2=false
 | 0,_,_,_,_,_,_,_=>.inl rfl
 | k+1,s,l,es,hs,hl,hb,h=>by
  by_cases L:l.length<21
  ·rw[MP L,MP (by rw[Hw hl];exact L)];exact .inl rfl
  ·obtain⟨b,d,t,r,rfl,I,H⟩:=Ur (HS L);(have aD:(b::d++t++r).length=21+r.length:=by simp[I,H];omega);rw[aD]at hl;obtain⟨e1,er,rfl,aE⟩:=K8 (es:=es) (n:=21) (by omega);obtain⟨ed,et,rfl,z⟩:=K8 (es:=e1) (n:=17) (by omega);(have E:et.length=4:=by simp[z]at aE;omega);(have aB:r.length=er.length:=by simp[z,E]at hl;omega);(have O:(b::d).length=ed.length:=by simp[I,z]);by_cases W:BM (AP s (b::d))=t/\b.toNat<8
   ·rw[MR I H W.1 W.2]at h ⊢;have ex:Cu (b::d++t++r) (ed++et++er)=Cu (b::d++t) (ed++et)++Cu r er:=L4 (by simp[I,H,z,E]);by_cases h0:BD (ed++et)=0
    ·rw[ex,O6 (by simp[I,H,z,E]) h0,MR I H W.1 W.2];rcases SY k (AP s (b::d)) r er (I5 _ _ hs) aB (VV hb h0) h with h1|h1
     ·rw[h1];exact .inl rfl
     ·exact .inr h1
    ·have Y:=P9 hs O H E (VW hb) h0 W.1;cases ed with
     | nil=>simp at z
     | cons eb ed'=>
      have e3:Cu (b::d) (eb::ed')=(b ^^^ eb):: Cu d ed':=rfl;rw[ex,L4 O,e3];rw[e3]at Y;(have aA:d.length=ed'.length:=by simp at O;omega);rw[OX (by rw[Hw aA,I]) (by rw[Hw (by rw[H,E]),H]) λhx=>Y hx.1];exact .inr rfl
   ·rw[OX I H W]at h;cases h
def ZR{s:Nat}{Y:Int}{l es:gh UInt8}(hs:s<4294967296)(hl:l.length=es.length)(hb:Hv es)(h:(Ee s Y l).2=0):Ee s Y (Cu l es)=Ee s Y l\/(Ee s Y (Cu l es)).2=7:=by
 by_cases O:l.length<12
 ·unfold Ee;rw[Ae O,Ae (by rw[Hw hl];exact O)];exact .inl rfl
 ·obtain⟨d,t,r,rfl,I,H⟩:=V9 (HS O);have aB:(d++t++r).length=12+r.length:=by simp[I,H];omega
  rw[aB]at hl;obtain⟨e1,er,rfl,aD⟩:=K8 (es:=es) (n:=12) (by omega);obtain⟨ed,et,rfl,E⟩:=K8 (es:=e1) (n:=8) (by omega);have z:et.length=4:=by simp[E]at aD;omega
  have W:r.length=er.length:=by simp[E,z]at hl;omega
  have L:d.length=ed.length:=by rw[I,E]
  have ex:Cu (d++t++r) (ed++et++er)=Cu (d++t) (ed++et)++Cu r er:=L4 (by simp[I,H,E,z]);rw[Lp I H]at h ⊢;by_cases hp:BM (AP s d)=t/\BI d=Y
  ·rw[Ae hp]at h ⊢;by_cases h0:BD (ed++et)=0
   ·rw[ex,O6 (by simp[I,H,E,z]) h0,Lp I H,Ae hp,Hw W];by_cases hg:(Da (r.length+12) (AP s d) r).2=true
    ·rcases SY (r.length+12) (AP s d) r er (I5 _ _ hs) W (VV hb h0) hg with h1|h1
     ·rw[h1];exact .inl rfl
     ·rw[Aa (by rw[h1];simp)];exact .inr rfl
    ·rw[Aa hg]at h;simp at h
   ·have aA:=P9 hs L H z (VW hb) h0 hp.1;rw[ex,L4 L,Lp (by rw[Hw L,I]) (by rw[Hw (by rw[H,z]),H]),Aa λhx=>aA hx.1];exact .inr rfl
  ·rw[Aa hp]at h;simp at h
def XB{s:Nat}{l es d:gh UInt8}(hs:s<4294967296)(H:l.length=es.length)(hb:Hv es)(h:G2 s l=some d):G2 s (Cu l es)=some d\/G2 s (Cu l es)=none:=by
 by_cases O:BD es=0
 ·rw[O6 H O];exact .inl h
 ·refine .inr ?_;unfold G2 at h ⊢;rw[Hw H];by_cases E:l.length<4
  ·rw[Ae E]
  ·rw[Aa E]at h ⊢;obtain⟨x,t,rfl,Y⟩:=K8 (es:=l) (n:=l.length-4) (by omega);obtain⟨ex,et,rfl,hex⟩:=K8 (es:=es) (n:=(x++t).length-4) (by omega);(have L:t.length=4:=by simp at Y E;omega);(have z:x.length=ex.length:=by rw[Y,hex]);(have I:et.length=4:=by simp at H;omega);(have hn:(x++t).length-4=x.length:=by simp[L]);rw[hn]at h ⊢;rw[List.take_left' rfl,NV rfl]at h;by_cases W:BM (AP s x)=t
   ·rw[L4 z,List.take_left' (Hw z),NV (Hw z),Aa (P9 hs z L I hb O W)]
   ·rw[Aa W]at h;cases h
section
variable{P P':PD}{nm:Bs}{l es:Bs}
structure Ex (P P':PD) (nm:Bs) (l es:Bs):Prop where
 FM:∀m,m≠nm->P'.bs m=P.bs m
 MA:P.bs nm=some l
 is:P'.bs nm=some (Cu l es)
 B4:l.length=es.length
 Nq:Hv es
 Ai:P'.Ai=P.Ai
def Ex.aS(h:Ex P P' nm l es)(m:Bs){d:Bs}(z:P.aS m=(d,0)):P'.aS m=(d,0)\/(P'.aS m).2=7:=by
 unfold PD.aS at z ⊢;by_cases E:m=nm
 ·subst E;rw[FQ,h.MA]at z;rw[FQ,h.is];dsimp only at z ⊢;rw[Aa (by simp)]at z ⊢;cases hu:G2 (AB m) l with
  | none=>rw[hu]at z;simp at z
  | some x=>
   rw[hu]at z;simp only[Prod.mk.injEq,HK]at z;subst z;rcases XB (Iw m) h.B4 h.Nq hu with H|H<;>rw[H]
   ·exact .inl rfl
   ·exact .inr rfl
 ·rw[FQ]at z ⊢;rw[h.FM m E];exact .inl z
def Ex.CK(h:Ex P P' nm l es){ix:Ix}(z:P.CK=some ix):P'.CK=some ix\/P'.CK=none:=by
 have L:∀Q:PD,Q.bs Ay=none->Q.aS Ay=([],8):=λQ Y=>by unfold PD.aS;rw[FQ,Y];rfl
 cases hb:P.bs Ay with
 | none=>
  have W:Ay≠nm:=λe=>by rw[e,h.MA]at hb;cases hb
  have H:=L P' (by rw[h.FM _ W];exact hb);have E:=L P hb;left;unfold PD.CK at z ⊢;rw[H,<-E];exact z
 | some c=>
  unfold PD.CK at z ⊢;have H:(P.aS Ay).2=0:=by
   by_cases O:(P.aS Ay).2=0
   ·exact O
   ·have h8:(P.aS Ay).2≠8:=by
     unfold PD.aS;rw[FQ,hb];dsimp only
     rw[Aa (by simp)];split<;>simp
    unfold indexOf at z;rw[Aa h8,Ae (.inl O)]at z;cases z
  obtain⟨d,I⟩:∃d,P.aS Ay=(d,0):=⟨(P.aS Ay).1,by rw[<-H]⟩;rcases h.aS Ay I with E|E
  ·left;rw[E,<-I];exact z
  ·right;unfold indexOf;rw[Aa (by rw[E];decide),Ae (.inl (by rw[E];decide))]
def Ex.BN(h:Ex P P' nm l es){n:Int}{x:gh Pu}(z:P.BN n=some x):P'.BN n=some x\/P'.BN n=none:=by
 unfold PD.BN at z ⊢;have L:(P.aS (Aw n)).2=0:=by
  by_cases I:(P.aS (Aw n)).2=0
  ·exact I
  ·unfold Hj at z;rw[Ae I]at z;cases z
 obtain⟨d,H⟩:∃d,P.aS (Aw n)=(d,0):=⟨(P.aS (Aw n)).1,by rw[<-L]⟩;rcases h.aS _ H with E|E
 ·left;rw[E,<-H];exact z
 ·right;unfold Hj;rw[Ae (by rw[E];decide)]
def Ex.sd(h:Ex P P' nm l es):∀(d:gh Int) {z:gh (Int×gh Pu)},P.sd d=some z->P'.sd d=some z\/P'.sd d=none
 | [],_,hx=>.inl hx
 | n::r,z,hx=>by
  unfold PD.sd at hx ⊢;cases hs:P.BN n with
  | none=>rw[hs]at hx;cases hx
  | some x=>
   rw[hs]at hx;rcases h.BN hs with H|H<;>rw[H]
   ·cases hr:P.sd r with
    | none=>rw[hr]at hx;cases hx
    | some y=>
     rw[hr]at hx;rcases Ex.sd h r hr with E|E<;>rw[E]
     ·exact .inl hx
     ·exact .inr rfl
   ·exact .inr rfl
def Ex.aU(h:Ex P P' nm l es)(n a:Int)(d:(P.aU n a).2=0):P'.aU n a=P.aU n a\/(P'.aU n a).2=7:=by
 have e:∀Q:PD,DQ Q.D Q.F ⟨(Af n).toArray⟩=match Q.bs (Af n) with|some c=>(c,0)|none=>([],8):=λQ=>@FQ Q (Af n)
 unfold PD.aU Gi at d ⊢;by_cases z:Af n=nm
 ·rw[e,z,h.MA]at d;rw[e P',e P,z,h.MA,h.is];dsimp only at d ⊢;rw[Aa (by simp)]at d;rw[Aa (by simp),Aa (by simp)];exact ZR (Iw _) h.B4 h.Nq d
 ·rw[e P',e P,h.FM _ z];exact .inl rfl
def Ex.a1(h:Ex P P' nm l es):∀(H:gh Int) (d:gh Pu),(P.a1 H d).2=0->P'.a1 H d=P.a1 H d\/(P'.a1 H d).2=7
 | [],_,_=>.inl rfl
 | n::r,d,hx=>by
  unfold PD.a1 at hx ⊢;by_cases z:(P.aU n d.length).2=0
  ·rw[Aa (by rw[z];decide)]at hx;rcases h.aU n d.length z with E|E
   ·rw[E,Aa (by rw[z];decide),Aa (by rw[z];decide)];exact Ex.a1 h r _ hx
   ·right;rw[Ae (by rw[E];decide)];exact E
  ·rw[Ae z]at hx;exact absurd hx z
def Ex.aT(h:Ex P P' nm l es){x:Ar×gh Pu}(d:Ar.aT P=.ok x):Ar.aT P'=.ok x\/Ar.aT P'=.error 7:=by
 cases hi:P.CK with
 | none=>rw[Lx hi]at d;cases d
 | some ix=>
  cases hb:P.Ai.any (λnm=>decide ((Ba nm).1=0)) with
  | true=>rw[MT hi hb]at d;cases d
  | false=>
   cases hs:P.sd ix.sd with
   | none=>rw[Lu hi hb hs]at d;cases d
   | some sg=>
    have H:=h.Ai;by_cases L:(P.pd (Br ix.AZ P.Ai)).2=0
    ·rw[Lw hi hb hs L]at d;(have z:P'.Ai.any (λnm=>decide ((Ba nm).1=0))=false:=by rw[H];exact hb);rcases h.CK hi with I|I
     ·rcases h.sd _ hs with O|O
      ·rcases h.a1 _ _ L with W|W
       ·left;(have E:P'.pd (Br ix.AZ P'.Ai)=P.pd (Br ix.AZ P.Ai):=by rw[H];exact W);rw[Lw I z O (by rw[E];exact L),<-d];(have Y:P'.bB ix.AZ=P.bB ix.AZ:=by unfold PD.bB;rw[E,H]);(have e2:∀A:Ar,A.aX P'=A.aX P:=λA=>by unfold Ar.aX;rw[H]);(have e3:Ar.AR P' ix=Ar.AR P ix:=by unfold Ar.AR;rw[Y,H]);rw[E,e3,e2]
       ·right;(have E:(P'.pd (Br ix.AZ P'.Ai)).2=7:=by rw[H];exact W);rw[Lv I z O (by rw[E];decide),E]
      ·exact .inr (Lu I z O)
     ·exact .inr (Lx I)
    ·rw[Lv hi hb hs L]at d;cases d
end
end
def A4E{i b:Nat}(d:b<2 ^ i)(L:Nat):b+2 ^ i*L=b ^^^ 2 ^ i*L:=by
 apply Nat.eq_of_testBit_eq;intro j;rw[Nat.add_comm,Nat.testBit_two_pow_mul_add _ d,Nat.testBit_xor,Nat.testBit_two_pow_mul];by_cases h:j<i
 ·rw[Ae h];simp[show ¬(j≥i) by omega]
 ·rw[Aa h,Nat.testBit_lt_two_pow (Bi d (show 2 ^ i<=2 ^ j from Nat.pow_le_pow_right (by decide) (by omega)))];simp[show j≥i by omega]
def Ui(i x y:Nat):2 ^ i*(x ^^^ y)=2 ^ i*x ^^^ 2 ^ i*y:=by
 have:=Nat.shiftLeft_xor_distrib (a:=x) (b:=y) (i:=i);rw[Nat.shiftLeft_eq,Nat.shiftLeft_eq,Nat.shiftLeft_eq]at this;rw[Hb,Hb _ x,Hb _ y];exact this
def UA:∀(l:gh UInt8) (j:Nat) (h:j<l.length) (x:UInt8),BD (l.set j ((l[j]'h) ^^^ x))=BD l ^^^ 2 ^ (8*j)*x.toNat
 | a::t,0,_,x=>by
  have E:(a ^^^ x).toNat=a.toNat ^^^ x.toNat:=UInt8.toNat_xor ..;have d:a.toNat ^^^ x.toNat<256:=Mf (n:=8) a.toNat_lt x.toNat_lt;show (a ^^^ x).toNat+256*BD t=(a.toNat+256*BD t) ^^^ 2 ^ (8*0)*x.toNat;rw[E,J1 d,J1 a.toNat_lt,show 2 ^ (8*0)=1 from rfl,QD,Nat.xor_assoc,Nat.xor_comm x.toNat,Nat.xor_assoc]
 | a::t,j+1,h,x=>by
  have z:=UA t j (by simpa using h) x;show a.toNat+256*BD (t.set j ((t[j]'(by simpa using h)) ^^^ x))=(a.toNat+256*BD t) ^^^ 2 ^ (8*(j+1))*x.toNat;rw[z,J1 a.toNat_lt,J1 a.toNat_lt,show (256:Nat)=2 ^ 8 from rfl,Ui,<-J5,<-Nat.pow_add,show 8+8*j=8*(j+1) by omega,Nat.xor_assoc]
def A1o(l:gh UInt8)(q:Nat)(h:q/8<l.length):BD (l.set (q/8) ((l[q/8]'h) ^^^ UInt8.ofNat (2 ^ (q % 8))))=BD l ^^^ 2 ^ q:=by
 rw[UA];have h1:2 ^ (q % 8)<=2 ^ 7:=Nat.pow_le_pow_right (by decide) (by omega);have d:(UInt8.ofNat (2 ^ (q % 8))).toNat=2 ^ (q % 8):=by simp;omega
 rw[d,<-Nat.pow_add,show 8*(q/8)+q % 8=q by omega]
def HN(l d:gh UInt8)(a m:Nat):Prop:=d.length=l.length/\BD d=BD l ^^^ 2 ^ a*m
def HN.bI(l:gh UInt8)(a:Nat):HN l l a 0:=⟨rfl,by simp⟩
def HN.fU{l d:gh UInt8}{a m k:Nat}(h:HN l d a m)(z:m<2 ^ k)(E:(a+k)/8<d.length):HN l (d.set ((a+k)/8) ((d[(a+k)/8]'E) ^^^ UInt8.ofNat (2 ^ ((a+k) % 8)))) a (m+2 ^ k):=by
 refine⟨by rw[HU];exact h.1,?_⟩;rw[A1o,h.2,Nat.xor_assoc]
 congr 1
 have e:=A4E z 1;rw[KF]at e;rw[e,Ui,<-Nat.pow_add]
def Xg{l d:gh UInt8}(h:d.length=l.length):Cu l (Cu l d)=d:=by
 refine LK (by simp[Cu,h]) ?_;rw[Kg _ _ (by simp[Cu,h]),Kg _ _ h.symm,<-Nat.xor_assoc,Nat.xor_self,Nat.zero_xor]
def HN.Nq{l d:gh UInt8}{a m:Nat}(h:HN l d a m)(z:m<4294967296):Hv (Cu l d):=by
 refine⟨a,m,?_,z⟩;rw[Kg _ _ h.1.symm,h.2,<-Nat.xor_assoc,Nat.xor_self,Nat.zero_xor]
def Ex.by{P P':PD}{nm l d:Bs}{a m:Nat}(H:∀x,x≠nm->P'.bs x=P.bs x)(z:P.bs nm=some l)(L:P'.bs nm=some d)(h:HN l d a m)(E:m<4294967296)(I:P'.Ai=P.Ai):Ex P P' nm l (Cu l d):=
 ⟨H,z,by rw[Xg h.1];exact L,by simp[Cu,h.1],h.Nq E,I⟩
section
open Go.RowKit

def Rel(L:Nat->gh Pt)(pd:gh Pu)(d A9:Int):Prop:=∀k:Nat,k<8->(L k).filter (λx=>decide (Bo A9 d<=x.1))=refQ pd k (-9223372036854775808) 9223372036854775807 d A9
def ZI(pd:gh Pu)(s a b l c a' H l' E:Int)(g:Int->Bool)(h:∀p∈pd,Gj s a' H l' E p=(Gj s a b l c p&&g p.2.1)):
 refQ pd s a' H l' E=(refQ pd s a b l c).filter (λx=>g x.1):=by
 have key:∀(I:gh Pu) (d:gh Pt),E4 d->(∀p∈I,Gj s a' H l' E p=(Gj s a b l c p&&g p.2.1))->
  I.foldl (Er s a' H l' E) (d.filter λx=>g x.1)=(I.foldl (Er s a b l c) d).filter (λx=>g x.1):=by
  intro I
  induction I with
  | nil=>intro d _ _;rfl
  | cons p r ih=>
   intro d Y W;have L:=W p (by simp);simp only[QM];by_cases q:Gj s a b l c p=true
   ·(have e1:Er s a b l c d p=CE d p.2.1 p.2.2:=by unfold Er;rw[Ae q]);have O:Er s a' H l' E (d.filter λx=>g x.1) p=(CE d p.2.1 p.2.2).filter (λx=>g x.1):=by
     unfold Er;rw[L,q,O3,V0 Y]
    rw[e1,O];exact ih _ (LP Y _ _) λp z=>W p (Bp _ z)
   ·(have q':Gj s a b l c p=false:=by simpa using q);(have e1:Er s a b l c d p=d:=by unfold Er;rw[q'];rfl);have O:Er s a' H l' E (d.filter λx=>g x.1) p=d.filter λx=>g x.1:=by
     unfold Er;rw[L,q',Xc];rfl
    rw[e1,O];exact ih _ Y λp z=>W p (Bp _ z)
 exact key pd [] List.Pairwise.nil h
def Wo{t d A9:Int}(h:AT t):Ha t d A9=decide (Bo A9 d<=t):=(A0M A9 d t h).symm
def Rel.cq{L:Nat->gh Pt}{pd:gh Pu}{d A9:Int}(h:Rel L pd d A9)(E:∀p∈pd,AT p.2.1){k:Nat}(H:k<8)(a b:Int):
 piece (L k) (max a (Bo A9 d)) b=refQ pd k a b d A9:=by
 have e:=ZI pd k (-9223372036854775808) 9223372036854775807 d A9 a b d A9 (λt=>decide (a<=t)&&decide (t<=b)) λp z=>by
  have⟨h1,h2⟩:=E p z;unfold Gj;have d1:=CM h1;have d2:=CM h2;rw[d1,d2];cases decide (p.1=(k:Int))<;>cases decide (a<=p.2.1)<;>cases decide (p.2.1<=b)<;>cases Ha p.2.1 d A9<;>rfl
 rw[e,<-h k H,A5a];unfold piece
 congr 1
 funext x
 apply Xd.2;simp only[Gg,E0];omega
def Rel.bI(d A9:Int):Rel (λ_=>[]) [] d A9:=λ_ _=>by simp[refQ]
def Rel.ax{L:Nat->gh Pt}{pd:gh Pu}{d A9:Int}(h:Rel L pd d A9)(O:∀k,k<8->E4 (L k)){s:Nat}(hs8:s<8){t v:Int}(H:AT t):
 Rel (Fq L (Bo A9 d) s t v) (pd++[((s:Int),t,v)]) d A9:=by
 intro k E;have W:refQ (pd++[((s:Int),t,v)]) k (-9223372036854775808) 9223372036854775807 d A9=Er k (-9223372036854775808) 9223372036854775807 d A9 (refQ pd k (-9223372036854775808) 9223372036854775807 d A9) ((s:Int),t,v):=by
  unfold refQ;rw[Mm];rfl
 rw[W,<-h k E];obtain⟨t1,t2⟩:=H;have d1:=CM t1;have d2:=CM t2;unfold Er Gj;simp only[d1,d2,Bool.and_true,Wo (⟨t1,t2⟩:AT t)];unfold Fq;by_cases z:Bo A9 d<=t
 ·rw[Ae z];unfold Iv;by_cases e:k=s
  ·subst e;have f:=V0 (O k E) (λx=>decide (Bo A9 d<=x)) t v;simp only[CM z]at f ⊢;simp only[Cp]at f ⊢;simpa using f
  ·have I:¬(s:Int)=(k:Int):=λx=>e (by omega);simp[e,I]
 ·rw[Aa z];have:decide (Bo A9 d<=t)=false:=De z;simp[this]

def SM{L:Nat->gh Pt}{a b:gh Pu}{d A9:Int}(h:Rel L a d A9)(_ha:∀p∈b,B8 p)(O:C4 (Bo A9 d) a b):Rel L b d A9:=λk E=>by
 rw[h k E];refine ZK λt I H z=>O.1 _ _ ?_;rw[Wo ⟨I,H⟩]at z;exact Ph z
structure Wd (P:PD) (a m:Nat):Prop where
 A4:P.D.A4.length<=a
 AI:P.D.AI.length<=a
 Fb:∀l∈P.D.As,l.length<=a
 B4:∀f,P.D.Ap f->(P.F f).1.length<=m
def Fit.wd{P:PD}{a c m:Nat}(h:Fit P a c m):Wd P a m:=⟨h.A4,h.AI,h.Fb,h.B4⟩
def Wd.BQ{P:PD}{a c m a' m':Nat}(h:Wd P a m)(d:Fit P a' c m'):Fit P a c m:=⟨h.A4,h.AI,h.Fb,d.Al,h.B4,d.AA,d.BC⟩
def Bg(P:PD)(k:Nat):Prop:=∀f,P.D.Ap f->f<k
def Bg.af{P:PD}{k d:Nat}(h:Bg P k)(z:k<=d):Bg P d:=λf E=>Bi (h f E) z
def Nb{k:Nat}:∀ {es:gh AM},(∀e∈es,e.2<k)->IU es<=k
 | [],_=>Cb _
 | e::r,h=>by
  have:=h e (Bt ..);have:=Nb λx d=>h x (Bp _ d);unfold IU;omega
def VQ{k:Nat}:∀ {l:gh (gh AM)},(∀c∈l,∀e∈c,e.2<k)->Kv l<=k
 | [],_=>Cb _
 | c::r,h=>by
  have:=Nb (h c (Bt ..));have:=VQ λx d=>h x (Bp _ d);unfold Kv;omega
def Bg.AR{P:PD}{k:Nat}(h:Bg P k):P.D.AR<=k:=by
 have h1:=Nb λe d=>h _ (.inl ⟨e,d,rfl⟩);have h2:=Nb λe d=>h _ (.inr (.inl ⟨e,d,rfl⟩));have h3:=VQ λc z e d=>h _ (.inr (.inr ⟨c,z,e,d,rfl⟩));unfold DS.AR;omega
def Bg.b7{P P':PD}{k:Nat}(h:Bg P k)(d:P'.D.AI=P.D.AI\/P'.D.AI=P'.D.A4)(z:∀e∈P'.D.A4,e.2<k)(H:∀l∈P'.D.As,l∈P.D.As\/l=P'.D.A4):Bg P' k:=by
 rintro f (⟨e,he,rfl⟩|⟨e,he,rfl⟩|⟨l,E,e,he,rfl⟩)
 ·exact z e he
 ·rcases d with d|d
  ·rw[d]at he;exact h _ (.inr (.inl ⟨e,he,rfl⟩))
  ·rw[d]at he;exact z e he
 ·rcases H l E with E|rfl
  ·exact h _ (.inr (.inr ⟨l,E,e,he,rfl⟩))
  ·exact z e he
def Bg.A4{P:PD}{k:Nat}(h:Bg P k):∀e∈P.D.A4,e.2<k:=λe d=>h _ (.inl ⟨e,d,rfl⟩)
def Ie(P P':PD):Prop:=P'.D.AI=P.D.AI/\((P'.D.A4=P.D.A4/\P'.D.As=P.D.As)\/P'.D.As=P.D.As++[P'.D.A4])
def Ie.wd{P P':PD}{a m:Nat}(h:Ie P P')(z:Wd P a m)(E:P'.D.A4.length<=a)(H:∀f,P'.D.Ap f->(P'.F f).1.length<=m):Wd P' a m:=
 ⟨E,by rw[h.1];exact z.AI,λl d=>by
  rcases h.2 with⟨_,e⟩|e
  ·rw[e]at d;exact z.Fb l d
  ·rw[e]at d;rcases AU.1 d with d|d
   ·exact z.Fb l d
   ·simp at d;subst d;exact E,H⟩
def Ie.Al{P P':PD}(h:Ie P P'):∀l∈P'.D.As,l∈P.D.As\/l=P'.D.A4:=λl d=>by
 rcases h.2 with⟨_,e⟩|e
 ·rw[e]at d;exact .inl d
 ·rw[e]at d;rcases AU.1 d with d|d
  ·exact .inl d
  ·exact .inr (by simpa using d)
def Ie.Ap{P P':PD}(h:Ie P P'){p:Nat->Prop}(E:∀f,P.D.Ap f->p f)(z:∀e∈P'.D.A4,p e.2):∀f,P'.D.Ap f->p f:=by
 rintro f (⟨e,he,rfl⟩|⟨e,he,rfl⟩|⟨l,d,e,he,rfl⟩)
 ·exact z e he
 ·rw[h.1]at he;exact E _ (.inr (.inl ⟨e,he,rfl⟩))
 ·rcases h.Al l d with d|rfl
  ·exact E _ (.inr (.inr ⟨l,d,e,he,rfl⟩))
  ·exact z e he
section
variable{P P':PD}{A:Ar}{J:Jn}{a m k:Nat}
def Extra.b7{nm:Bs}(h:Extra P nm P'):Ie P P':=⟨h.AI,by
 rcases h.da with⟨d1,d2⟩|⟨_,d1,d2⟩
 ·exact .inl ⟨d1,d2⟩
 ·exact .inr (by rw[d2,d1])⟩
def Extra.EW{nm:Bs}(h:Extra P nm P'):∀e∈P'.D.A4,e∈P.D.A4\/e.2=P.D.AR:=λe d=>by
 rcases h.da with⟨d1,_⟩|⟨_,d1,_⟩
 ·rw[d1]at d;exact .inl d
 ·rw[d1]at d;rcases AU.1 d with d|d
  ·exact .inl d
  ·simp at d;subst d;exact .inr rfl
def Bg.bG{nm:Bs}(h:Bg P k)(z:Extra P nm P'):Bg P' (k+1):=by
 refine z.b7.Ap (λf E=>A4Q (h f E)) λe d=>?_;rcases z.EW e d with d|d
 ·exact A4Q (h.A4 e d)
 ·have:=h.AR;omega
def Wd.bG{nm:Bs}(h:Wd P a m)(d:Extra P nm P')(L:P.dl+1<=a)(O:(P'.F P.D.AR).1.length<=m):Wd P' a m:=by
 unfold PD.dl at L;have E:∀f,(f≠P.D.AR->P.D.Ap f)->(P'.F f).1.length<=m:=λf E=>by
  by_cases e:f=P.D.AR
  ·rw[e];exact O
  ·rw[d.Eu f e];exact h.B4 f (E e)
 refine d.b7.wd h ?_ (d.b7.Ap (λf I=>E f λ_=>I) λe z=>E _ λH=>?_)
 ·rcases d.da with⟨d1,_⟩|⟨_,d1,_⟩
  ·rw[d1];omega
  ·rw[d1];simp;omega
 ·rcases d.EW e z with z|z
  ·exact .inl ⟨e,z,rfl⟩
  ·exact absurd z H
def Xi(P:PD)(nm:Bs)(s:Nat)(l:Bs):((P.aH nm s l).2.F P.D.AR).1.length<=l.length+4:=by
 have⟨e1,e2⟩:=Kq P nm;have h:(P.ai (A6 nm)).2.F P.D.AR=([],0):=by unfold PD.ai;simp[upd]
 unfold PD.aH;split
 ·rw[h];simp
 ·rename_i E;have z:=e2 (Cy E);have⟨a1,a2,a3,a4⟩:=J0 (AS s l) z;have d:(((P.ai (A6 nm)).2.ae (A6 nm) s l).2.2.F P.D.AR).1.length<=l.length+4:=by
   show (((P.ai (A6 nm)).2.ak (A6 nm) (AS s l)).2.F P.D.AR).1.length<=l.length+4;rcases a4 with e|⟨j,e⟩
   ·rw[e,h];simp
   ·rw[e];simp only[upd,Cp,h,Ff,BT,EL];omega
  split
  ·exact d
  ·unfold PD.ad Cq;split
   ·exact d
   ·dsimp only
    split
    ·unfold upd;split
     ·rename_i e;rw[<-e];exact d
     ·exact d
    ·exact d
def Wd.aH(h:Wd P a m)(nm:Bs)(s:Nat)(l:Bs)(d:P.dl+1<=a)(z:l.length+4<=m):Wd (P.aH nm s l).2 a m:=h.bG (Kp P nm s l).1 d (AJ (Xi P nm s l) z)
def Bg.aH(h:Bg P k)(nm:Bs)(s:Nat)(l:Bs):Bg (P.aH nm s l).2 (k+1):=h.bG (Kp P nm s l).1
def MD(P:PD)(x:gg):(P.ad x).2.D.A4=P.D.A4/\(P.ad x).2.D.AI=P.D.AI/\(P.ad x).2.D.As=P.D.As/\∀f,((P.ad x).2.F f).1=(P.F f).1:=by
 cases hx:lookup P.D.A4 x with
 | none=>
  have e:(P.ad x).2=P:=by unfold PD.ad Cq;rw[hx]
  rw[e];exact⟨rfl,rfl,rfl,λ_=>rfl⟩
 | some g=>
  have⟨a1,a2,a3,a4⟩:=Je hx;refine⟨a1,a2,a3,λf=>?_⟩;rcases a4 with e|e
  ·rw[e]
  ·rw[e];unfold upd;split
   ·rename_i d;rw[d]
   ·rfl
def PW(z:P'.D.A4=P.D.A4)(h:P'.D.AI=P.D.AI)(E:P'.D.As=P.D.As)(f:Nat)(d:P'.D.Ap f):P.D.Ap f:=by
 unfold DS.Ap at d ⊢;rwa [z,h,E]at d
def Wd.ay(h:Wd P a m)(z:P'.D.A4=P.D.A4)(d:P'.D.AI=P.D.AI)(E:P'.D.As=P.D.As)(I:∀f,(P'.F f).1=(P.F f).1):Wd P' a m:=
 ⟨by rw[z];exact h.A4,by rw[d];exact h.AI,by rw[E];exact h.Fb,λf H=>by rw[I];exact h.B4 f (PW z d E f H)⟩
def Wd.ad(h:Wd P a m)(x:gg):Wd (P.ad x).2 a m:=by
 have⟨h1,h2,h3,h4⟩:=MD P x;exact h.ay h1 h2 h3 h4
def Bg.ad(h:Bg P k)(x:gg):Bg (P.ad x).2 k:=by
 have⟨h1,h2,h3,_⟩:=MD P x;exact λf d=>h f (PW h1 h2 h3 f d)
def Wd.az:∀(l:gh Bs) {P:PD},Wd P a m->Wd (PD.az l P).2 a m
 | [],_,h=>h
 | nm::r,P,h=>by
  unfold PD.az;split
  ·exact h.ad _
  ·exact Wd.az r (h.ad _)
def Bg.az:∀(l:gh Bs) {P:PD},Bg P k->Bg (PD.az l P).2 k
 | [],_,h=>h
 | nm::r,P,h=>by
  unfold PD.az;split
  ·exact h.ad _
  ·exact Bg.az r (h.ad _)
def Wd.C(h:Wd P a m):Wd (A.C P).2.2 a m:=by unfold Ar.C;split<;>exact Wd.az _ h
def Bg.C(h:Bg P k):Bg (A.C P).2.2 k:=by unfold Ar.C;split<;>exact Bg.az _ h
def Wd.av(h:Wd P a m):Wd P.av.2 a m:=by
 unfold PD.av DC;dsimp only
 split
 ·refine⟨h.A4,h.A4,λl d=>(by cases d),?_⟩;rintro f (hf|hf|⟨l,d,_⟩)
  ·exact h.B4 f (.inl hf)
  ·exact h.B4 f (.inl hf)
  ·cases d
 ·exact⟨h.A4,h.AI,h.Fb,h.B4⟩
def Bg.av(h:Bg P k):Bg P.av.2 k:=by
 unfold PD.av DC;dsimp only
 split
 ·rintro f (hf|hf|⟨l,hl,_⟩)
  ·exact h f (.inl hf)
  ·exact h f (.inl hf)
  ·cases hl
 ·exact h
def OU(P:PD)(x:gg):Ie P (P.aG x).2/\(P.aG x).2.F=P.F/\(∀e∈(P.aG x).2.D.A4,e∈P.D.A4)/\((P.aG x).1=0->(P.aG x).2.dl+1=P.dl):=by
 unfold PD.aG Dn;by_cases E:B5 P.D.A4 x<0
 ·rw[Ae E];exact⟨⟨rfl,.inl ⟨rfl,rfl⟩⟩,rfl,λ_ h=>h,λh=>(by cases h)⟩
 ·rw[Aa E];have hl:=Vh P.D.A4 x;dsimp only
  by_cases z:(bg P.D.n).1=true
  ·rw[Ae z];refine⟨⟨rfl,.inr rfl⟩,rfl,λe d=>?_,λ_=>?_⟩
   ·rcases AU.1 d with d|d
    ·exact J6 d
    ·exact Mk d
   ·unfold PD.dl;simp;omega
  ·rw[Aa z];exact⟨⟨rfl,.inl ⟨rfl,rfl⟩⟩,rfl,λ_ h=>h,λh=>absurd (H8 h) z⟩
def Wd.aG(h:Wd P a m)(x:gg):Wd (P.aG x).2 a m:=by
 have⟨h1,h2,h3,_⟩:=OU P x;have:=Vo P x;refine h1.wd h ?_ ?_
 ·have:=h.A4;unfold PD.dl at *;omega
 ·rw[h2];exact h1.Ap (λf d=>h.B4 f d) λe z=>h.B4 _ (.inl ⟨e,h3 e z,rfl⟩)
def Bg.aG(h:Bg P k)(x:gg):Bg (P.aG x).2 k:=by
 have⟨h1,_,h3,_⟩:=OU P x;exact h1.Ap (λf d=>h f d) λe z=>h.A4 e (h3 e z)
def Wd.aK:∀(l:gh Bs) {P:PD},Wd P a m->Wd (PD.aK l P).2 a m
 | [],_,h=>h
 | nm::r,P,h=>by
  unfold PD.aK;split
  ·exact h.aG _
  ·exact Wd.aK r (h.aG _)
def Bg.aK:∀(l:gh Bs) {P:PD},Bg P k->Bg (PD.aK l P).2 k
 | [],_,h=>h
 | nm::r,P,h=>by
  unfold PD.aK;split
  ·exact h.aG _
  ·exact Bg.aK r (h.aG _)
def SL:∀(l:gh Bs) (P:PD),(PD.aK l P).1=0->(PD.aK l P).2.dl+l.length=P.dl
 | [],_,_=>rfl
 | nm::r,P,h=>by
  unfold PD.aK at h ⊢;split at h
  ·rename_i d;exact absurd h d
  ·rename_i d;rw[Aa d];have:=SL r _ h;have:=(OU P (A6 nm)).2.2.2 (Cy d);simp only[Cg];omega
def Vg{α:Type}(p:α->Bool):∀l:gh α,(l.filter p).length+(l.filter λx=>!p x).length=l.length
 | []=>rfl
 | x::r=>by
  have:=Vg p r;cases hx:p x with
  | true=>simp[hx];omega
  | false=>simp[hx];omega
def RH(H:Gc P)(d:(A.au P).1=0):(A.au P).2.dl<=A.Ai.length:=by
 have h1:=SL (A.aV P) P d;have h:=H.aQ.cH;have h2:(A.aX P).length<=A.Ai.length:=Jp (h.filter _) λx E=>by
  have:=(GX.1 E).2;simpa using this
 have z:(A.aX P).length+(A.aV P).length=P.Ai.length:=by
  unfold Ar.aX Ar.aV;exact Vg _ _
 rw[HJ]at z;have h4:(PD.aK (A.aV P) P).2.dl=(A.au P).2.dl:=rfl;omega
def Pq:∀(I:gh (gh Pu)) (d:Int) (z:gh Int) {P:PD} {k:Nat},Wd P a m->Bg P k->P.dl+I.length<=a->(∀l∈I,17*l.length+4<=m)->
 Wd (PD.aj I d z P).2.2.2 a m/\Bg (PD.aj I d z P).2.2.2 (k+I.length)
 | [],_,_,_,_,h,hi,_,_=>⟨h,hi⟩
 | l::r,d,z,P,k,h,hi,hd,hl=>by
  simp only[Cg]at hd;have L:Wd (P.aI (d+1) l).2 a m:=h.aH _ _ _ (by omega) (by rw[ID];exact hl l (Bt ..));have H:Bg (P.aI (d+1) l).2 (k+1):=hi.aH _ _ _;have hdl:(P.aI (d+1) l).2.dl<=P.dl+1:=LU P _ _ _;have E:PD.aj (l::r) d z P=if (P.aI (d+1) l).1≠0 then ((P.aI (d+1) l).1,d+1,z,(P.aI (d+1) l).2) else PD.aj r (d+1) (z++[d+1]) (P.aI (d+1) l).2:=rfl
  rw[E];split
  ·exact⟨L,H.af (by simp)⟩
  ·have⟨i1,i2⟩:=Pq r (d+1) (z++[d+1]) L H (by omega) λx O=>hl x (Bp _ O);exact⟨i1,i2.af (by simp;omega)⟩
def Sz(P:PD)(oe nm:gg):Ie P (P.aM oe nm).2/\(P.aM oe nm).2.F=P.F/\∀e∈(P.aM oe nm).2.D.A4,∃d∈P.D.A4,d.2=e.2:=by
 unfold PD.aM CU;cases hx:lookup P.D.A4 oe with
 | none=>exact⟨⟨rfl,.inl ⟨rfl,rfl⟩⟩,rfl,λe h=>⟨e,h,rfl⟩⟩
 | some f=>
  dsimp only
  split
  ·exact⟨⟨rfl,.inl ⟨rfl,rfl⟩⟩,rfl,λe h=>⟨e,h,rfl⟩⟩
  ·dsimp only
   split
   ·refine⟨⟨rfl,.inr rfl⟩,rfl,λe h=>?_⟩;rcases AU.1 h with h|h
    ·exact⟨e,MN _ _ _ _ e h,rfl⟩
    ·simp at h;subst h;exact⟨_,DY hx,rfl⟩
   ·exact⟨⟨rfl,.inl ⟨rfl,rfl⟩⟩,rfl,λe h=>⟨e,h,rfl⟩⟩
def Wd.aM(h:Wd P a m)(oe nm:gg)(z:P.dl+1<=a):Wd (P.aM oe nm).2 a m:=by
 have⟨h1,h2,h3⟩:=Sz P oe nm;have:=Vn P oe nm;refine h1.wd h (by unfold PD.dl at *;omega) ?_;rw[h2];exact h1.Ap (λf E=>h.B4 f E) λe H=>by have⟨d,z,e2⟩:=h3 e H;rw[<-e2];exact h.B4 _ (.inl ⟨d,z,rfl⟩)
def Bg.aM(h:Bg P k)(oe nm:gg):Bg (P.aM oe nm).2 k:=by
 have⟨h1,_,h3⟩:=Sz P oe nm;exact h1.Ap (λf z=>h f z) λe E=>by have⟨d,hd,e2⟩:=h3 e E;rw[<-e2];exact h.A4 d hd
def A0e(h:Wd P a m)(E:Bg P k)(first:Int)(sd:gh Int)(hd:P.dl+2<=a)(hl:12+8*sd.length<=m):Wd (P.ah first sd).2 a m/\Bg (P.ah first sd).2 (k+1):=by
 have hlen:(Cl first sd).length=8+8*sd.length:=by unfold Cl;rw[AY,CQ,JB]
 have z:Wd (P.aH Bm (AB Ay) (Cl first sd)).2 a m:=h.aH _ _ _ (by omega) (by omega);have d:=E.aH Bm (AB Ay) (Cl first sd);have:=LU P Bm (AB Ay) (Cl first sd);unfold PD.ah;split
 ·exact⟨z,d⟩
 ·exact⟨z.aM _ _ (by omega),d.aM _ _⟩
def A4h(h:Wd P a m)(d:Bg P k)(sd:gh Int)(z:P.dl+2<=a)(E:12+8*sd.length<=m):Wd (A.ah P sd).2.2 a m/\Bg (A.ah P sd).2.2 (k+1):=by
 have:=A0e h d (A.j.A8+1) sd z E;unfold Ar.ah;split
 ·exact⟨h,d.af (by omega)⟩
 ·split<;>exact this
def A3J(h:Wd P a m)(d:Bg P k):Wd (A.a6 P).2.2 a m/\Bg (A.a6 P).2.2 k:=by
 unfold Ar.a6;split
 ·exact⟨Wd.aK _ h,Bg.aK _ d⟩
 ·exact⟨(Wd.aK _ h).av,(Bg.aK _ d).av⟩
def U0(h:Gc P)(d:P'.D.A4=P.D.A4):Gc P':=⟨by rw[d];exact h.Ap,by rw[d];exact h.Cj⟩
def OD(A:Ar)(P:PD):(A.C P).2.2.D.A4=P.D.A4:=by
 have key:∀(l:gh Bs) (Q:PD),(PD.az l Q).2.D.A4=Q.D.A4:=by
  intro l
  induction l with
  | nil=>intro Q;rfl
  | cons nm r ih=>
   intro Q;unfold PD.az;split
   ·exact(MD Q _).1
   ·rw[ih,(MD Q _).1]
 unfold Ar.C;split<;>exact key _ _
def Zr(h:Wd P a m)(hi:Bg P k)(hn:Gc P)(z:gh Int)(d:gh (gh Pu))(hd:A.Ai.length+d.length+2<=a)(Y:∀l∈d,17*l.length+4<=m)(hk:12+8*(z.length+d.length)<=m):
 Wd (A.aF P z d).2.2 a m/\Bg (A.aF P z d).2.2 (k+d.length+1):=by
 have L:Wd (A.C P).2.2 a m:=h.C;have I:Bg (A.C P).2.2 k:=hi.C;have n1:Gc (A.C P).2.2:=U0 hn (OD A P);have E:(A.C P).2.1.Ai=A.Ai:=by unfold Ar.C;split<;>rfl
 unfold Ar.aF;dsimp only
 split
 ·exact⟨L,I.af (by omega)⟩
 ·have W:Wd ((A.C P).2.1.au (A.C P).2.2).2 a m:=Wd.aK _ L;have O:Bg ((A.C P).2.1.au (A.C P).2.2).2 k:=Bg.aK _ I;split
  ·exact⟨W,O.af (by omega)⟩
  ·rename_i h2;have H:=RH n1 (Cy h2);rw[E]at H;have⟨w3,i3⟩:=Pq d (A.C P).2.1.A8 z W O (by omega) Y;have⟨d3,d4⟩:=Kr d (A.C P).2.1.A8 z ((A.C P).2.1.au (A.C P).2.2).2;split
   ·exact⟨w3,i3.af (by omega)⟩
   ·have⟨w4,i4⟩:=A4h (A:={ (A.C P).2.1 with A8:=(PD.aj d (A.C P).2.1.A8 z ((A.C P).2.1.au (A.C P).2.2).2).2.1}) w3 i3 (PD.aj d (A.C P).2.1.A8 z ((A.C P).2.1.au (A.C P).2.2).2).2.2.1 (by omega) (by omega);split
    ·exact⟨w4,i4⟩
    ·exact A3J w4 i4
def W5(h:Bg P k)(J:Jn):Bg (J.aw P).2.2 (k+1):=h.bG (Nu P J).1
def A4q(h:Bg P k)(x:gg)(l:Bs):Bg (P.ak x l).2 k:=by
 cases hx:lookup P.D.A4 x with
 | none=>
  have e:(P.ak x l).2=P:=by unfold PD.ak Bj;rw[hx]
  rw[e];exact h
 | some g=>
  have⟨a1,a2,a3,_⟩:=J0 l hx;exact λf d=>h f (PW a1 a2 a3 f d)
def A4l(h:Bg P k)(p:Pu):Bg (A.ae P p).2.2.2 (k+1):=by
 have d:∀(J:Jn) {Q:PD} {k:Nat},Bg Q k->Bg (J.ax Q p).2.2.2 k:=λJ Q k z=>by
  unfold Jn.ax;split
  ·exact z
  ·exact A4q z _ _
 unfold Ar.ae;split
 ·exact h.C.af (by omega)
 ·dsimp only
  unfold Jn.ae;split
  ·split
   ·exact W5 h.C _
   ·exact d _ (W5 h.C _)
  ·exact(d _ h.C).af (by omega)
def A4k(h:Bg P k):Bg (A.ad P).2.2 k:=by
 have d:Bg (A.C P).2.2 k:=h.C;have z:∀J:Jn,Bg (J.ad (A.C P).2.2).2 k:=λJ=>by
  unfold Jn.ad;split
  ·exact d
  ·exact d.ad _
 unfold Ar.ad;split
 ·exact d
 ·split
  ·exact z _
  ·exact(z _).av
end
end
end Go.Proofs.YtodcnkbblippnaaGreatDoor
