/- Part 17 of a proof: walks of the program. -/
import Derived.Test.YtodcnkbblippnaaGreatDoorPart16
namespace Go.Proofs.YtodcnkbblippnaaGreatDoor
set_option maxRecDepth 100000
set_option maxHeartbeats 32000000
set_option linter.defProp false
open Go.Proofs.Tryz
section
open Go.RowKit
structure AM (P Q:PD):Prop where
 A5:P.D.A5=Q.D.A5
 AF:P.D.AF=Q.D.AF
 Aq:P.D.Aq=Q.D.Aq
 Et:P.F=Q.F
structure GZ (P:PD):Prop where
 Ap:(P.D.A5.map (·.2)).Nodup
 Cd:(P.D.A5.map (·.1)).Nodup
def PD.aP(P:PD):PD:=⟨{P.D with n:=⟨(AX P.F P.D.A5:Int)+4611686018427387904,0,0,0,0,0,0,false⟩},P.F⟩
def AM.aP(P:PD):AM P P.aP:=⟨rfl,rfl,rfl,rfl⟩
def GZ.aP{P:PD}(h:GZ P):Cm P.aP 4611686018427387904 4611686018427387904:=
 ⟨rfl,rfl,rfl,⟨by simp[PD.aP],by simp[PD.aP]⟩,by simp[PD.aP],h.Ap,h.Cd⟩
def GW{n:DN}(h:(bg n).2.1=0):(bg n).1=true:=by
 unfold bg at h ⊢;dsimp only at h ⊢;split at h
 ·cases h
 ·split at h
  ·cases h
  ·split at h
   ·cases h
   ·rename_i z d E;rw[Ae z,Ae d,Ae E]
section
variable {P Q:PD} {N R:Nat} {nm old:ByteArray}
def AM.AV(h:AM P Q):P.D.AV=Q.D.AV:=by unfold DS.AV;rw[h.A5,h.AF,h.Aq]
def AM.fl(h:AM P Q)(m:Bs):P.fl m=Q.fl m:=by unfold PD.fl;rw[h.A5,h.Et]
def AM.bs(h:AM P Q)(m:Bs):P.bs m=Q.bs m:=by unfold PD.bs;rw[h.fl]
def AM.ao(h:AM P Q)(I:Cm Q (N+1) R)(d:(P.ao nm).1=0):(Q.ao nm).1=0/\AM (P.ao nm).2 (Q.ao nm).2/\Cm (Q.ao nm).2 N R:=by
 have O:=h.AV;unfold PD.ao CM at d ⊢;rw[h.A5]at d ⊢;by_cases z:nm=ByteArray.empty\/B6 Q.D.A5 nm≥0
 ·rw[Ai z]at d;cases d
 ·rw[Ae z]at d;rw[Ae z,Ae z];dsimp only at d ⊢;rw[GW d,I.bg,O,h.Et];dsimp only
  rw[Ai rfl,Ai rfl];refine⟨rfl,⟨rfl,h.AF,by dsimp only;rw[h.Aq],rfl⟩,?_⟩;have E:¬nm=ByteArray.empty:=λe=>z (.inl e);have X:lookup Q.D.A5 nm=none:=(J5 _ _).1 (by (have:¬B6 Q.D.A5 nm≥0:=λe=>z (.inr e));omega);have L:=Gm nm;have W:Q.fl nm.data.toList=none:=by unfold PD.fl;rw[L,X];rfl
  have:=(Cm.ao (nm:=nm.data.toList) I W (λe=>E (by rw[<-L,e];rfl))).2.1;rw[L]at this;unfold PD.ao CM at this;rw[Ae z]at this;dsimp only at this;rw[I.bg]at this;simpa using this
def AM.ae(h:AM P Q)(z:Cm Q (N+1) R)(d:(P.ae nm).1=0):(Q.ae nm).1=0/\AM (P.ae nm).2 (Q.ae nm).2/\Cm (Q.ae nm).2 N R:=by
 have E:=Gm nm;have key:lookup Q.D.A5 nm≠none->Cm (Q.ae nm).2 N R:=λI=>by
  cases hx:lookup Q.D.A5 nm with
  | none=>exact absurd hx I
  | some f=>
   have:=(Cm.ae (nm:=nm.data.toList) (c:=Q.F f) z (by unfold PD.fl;rw[E,hx];rfl)).2.1
   rwa [E]at this
 unfold PD.ae Cz at d key ⊢;rw[h.A5]at d ⊢;cases hx:lookup Q.D.A5 nm with
 | none=>rw[hx]at d;cases d
 | some f=>
  rw[hx]at d key;dsimp only at d key ⊢;rw[d,Ai rfl];rw[z.bg]at key ⊢;dsimp only at key ⊢;rw[Ai rfl]at key ⊢;exact⟨rfl,⟨rfl,h.AF,h.Aq,by dsimp only;rw[h.Et]⟩,key (by simp)⟩
def AM.aF(h:AM P Q)(z:Cm Q (N+1) R)(d:P.aF.1=0):Q.aF.1=0/\AM P.aF.2 Q.aF.2/\Cm Q.aF.2 N R:=by
 have key:=z.aF.2.1;refine⟨z.aF.1,?_,key⟩;unfold PD.aF DW at d ⊢;dsimp only at d ⊢;rw[d,Ai rfl,z.bg];dsimp only
 rw[Ai rfl];exact⟨h.A5,h.A5,rfl,h.Et⟩
def AM.az(h:AM P Q)(E:Cm Q (N+1) R)(d:(P.az nm).1=0):(Q.az nm).1=0/\AM (P.az nm).2 (Q.az nm).2/\Cm (Q.az nm).2 N R:=by
 have I:=Gm nm;have key:lookup Q.D.A5 nm≠none->(Q.az nm).1=0/\Cm (Q.az nm).2 N R:=λW=>by
  cases z:lookup Q.D.A5 nm with
  | none=>exact absurd z W
  | some f=>
   have:=(Cm.az (nm:=nm.data.toList) (c:=Q.F f) E (by unfold PD.fl;rw[I,z];rfl));rw[I]at this;exact⟨this.1,this.2.1⟩
 have z:¬B6 Q.D.A5 nm<0:=λz=>by
  unfold PD.az Ds at d;rw[h.A5,Ai z]at d;cases d
 obtain⟨L,O⟩:=key λe=>z ((J5 _ _).2 e);refine⟨L,?_,O⟩;unfold PD.az Ds at d ⊢;rw[h.A5,Ae z]at d;rw[h.A5,Ae z,Ae z];dsimp only at d ⊢;rw[GW d,E.bg];dsimp only
 rw[Ai rfl,Ai rfl];exact⟨rfl,h.AF,by dsimp only;rw[h.Aq],h.Et⟩
def AM.aN(h:AM P Q)(L:Cm Q (N+1) R)(O:old≠nm)(d:(P.aN old nm).1=0):(Q.aN old nm).1=0/\AM (P.aN old nm).2 (Q.aN old nm).2/\Cm (Q.aN old nm).2 N R:=by
 have I:=Gm nm;have E:=Gm old;unfold PD.aN D3 at d;rw[h.A5]at d;cases hx:lookup Q.D.A5 old with
 | none=>rw[hx]at d;cases d
 | some f=>
  rw[hx]at d;dsimp only at d;by_cases z:nm=ByteArray.empty
  ·rw[Ai z]at d;cases d
  ·rw[Ae z]at d;dsimp only at d;have key:=Cm.aN (nm:=nm.data.toList) (old:=old.data.toList) (c:=Q.F f) L (by unfold PD.fl;rw[E,hx];rfl) (λe=>z (by rw[<-I,e];rfl)) (λe=>O (by rw[<-I,<-E,e]));rw[I,E]at key;refine⟨key.1,?_,key.2.1⟩;unfold PD.aN D3;rw[h.A5,hx];dsimp only
   rw[Ae z,Ae z];dsimp only
   rw[GW d,L.bg];dsimp only
   rw[Ai rfl,Ai rfl];exact⟨rfl,h.AF,by dsimp only;rw[h.Aq],h.Et⟩
def AM.aq{l:Bs}(h:AM P Q)(X:Cm Q (N+1) R)(hl:l.length<=R)(d:(P.aq nm l).1=0):(Q.aq nm l).1=0/\AM (P.aq nm l).2 (Q.aq nm l).2/\Cm (Q.aq nm l).2 N (R-l.length):=by
 have Y:=Gm nm;have W:¬(bg P.D.n).2.1≠0:=λz=>by
  unfold PD.aq Bx at d;rw[h.A5]at d;cases hx:lookup Q.D.A5 nm with
  | none=>rw[hx]at d;cases d
  | some f=>
   rw[hx]at d;dsimp only at d;have E:∀D n0,(BK D P.F f (Ab l) n0 (bg P.D.n).2.1).1≠0:=λD n0=>by
    unfold BK;split
    ·dsimp only;first|exact z|(rw[Ae z];exact z)
    ·exact z
   split at d
   ·exact E _ _ d
   ·split at d
    ·exact E _ _ d
    ·exact z d
 have z:(bg P.D.n).2.1=0:=by
  by_cases e:(bg P.D.n).2.1=0
  ·exact e
  ·exact absurd e W
 cases hx:lookup Q.D.A5 nm with
 | none=>
  unfold PD.aq Bx at d;rw[h.A5,hx]at d;cases d
 | some f=>
  have key:=Cm.aq (nm:=nm.data.toList) (c:=Q.F f) X (by unfold PD.fl;rw[Y,hx];rfl) l hl;rw[Y]at key;refine⟨key.1,?_,key.2.1⟩;have L:∀D:DS,D.A5=Q.D.A5->D.n.AA=Q.D.n.AA->¬((Ab l).size:Int)>G9 D Q.F:=λD h1 O=>by
   have:=X.AA;unfold G9;rw[h1,O,Kw];omega
  unfold PD.aq Bx at d ⊢;rw[h.A5,hx]at d;rw[h.A5,hx];dsimp only at d ⊢;rw[GW z,Ai rfl,z]at d;rw[GW z,Ai rfl,z,X.bg];dsimp only
  rw[Ai rfl];unfold BK at d ⊢;split at d
  ·simp at d
  ·rename_i I;rw[Ae I];split
   ·rename_i O;exact absurd O (L _ rfl rfl)
   ·exact⟨rfl,h.AF,h.Aq,by dsimp only;rw[h.Et]⟩
end
def nn{x:Int}(h:x=0):¬x≠0:=λk=>k h
section
variable {P Q:PD} {N R:Nat} {nm old:Bs} {A:Ar} {J:Jn}
def AM.Az(h:AM P Q):P.Az=Q.Az:=by unfold PD.Az;rw[h.A5]
def AM.aS(h:AM P Q):A.aS P=A.aS Q:=by unfold Ar.aS;rw[h.Az]
def AM.aT(h:AM P Q)(n a:Int):P.aT n a=Q.aT n a:=by
 unfold PD.aT GD DZ;rw[h.A5,h.Et]
def AM.bh(h:AM P Q):∀(l:List Int) (d:List Pu),P.bh l d=Q.bh l d
 | [],_=>rfl
 | n::r,d=>by simp only[PD.bh];rw[h.aT,h.bh r]
def AM.puts(h:AM P Q)(l:List Int):P.puts l=Q.puts l:=h.bh l []
def AM.CH(h:AM P Q)(m:Bs):P.CH m=Q.CH m:=by unfold PD.CH DZ;rw[h.A5,h.Et]
def AM.aV(h:AM P Q)(m:Bs):P.aV m=Q.aV m:=by unfold PD.aV;rw[h.CH]
def AM.Cy(h:AM P Q)(n:Int):P.Cy n=Q.Cy n:=by unfold PD.Cy;rw[h.aV]
def AM.segs(h:AM P Q):∀l:List Int,P.segs l=Q.segs l
 | []=>rfl
 | n::r=>by simp only[PD.segs];rw[h.Cy,h.segs r]
def AM.bV{s:Nat}{l:Bs}(h:AM P Q)(O:Cm Q (N+1) R)(hl:l.length+4<=R)(d:(P.af (Ab nm) s l).2.1=0):
 (P.af (Ab nm) s l).1=(Q.af (Ab nm) s l).1/\(Q.af (Ab nm) s l).2.1=0/\AM (P.af (Ab nm) s l).2.2 (Q.af (Ab nm) s l).2.2/\Cm (Q.af (Ab nm) s l).2.2 N (R-(l.length+4)):=by
 have I:=EX s l;obtain⟨L,z,E⟩:=h.aq (nm:=Ab nm) (l:=AS s l) O (by omega) d;rw[I]at E;refine⟨?_,L,z,E⟩;have e:∀X:PD,(X.af (Ab nm) s l).1=decide ((Cv (X.aq (Ab nm) (AS s l)).2.D (X.aq (Ab nm) (AS s l)).2.F (Ab nm)).1-(Cv X.D X.F (Ab nm)).1=(AS s l).length):=λX=>rfl;rw[e P,e Q];unfold Cv;rw[z.A5,z.Et,h.A5,h.Et]
def AM.aG{s:Nat}{l:Bs}(h:AM P Q)(hc:Cm Q (N+3) R)(L:l.length+4<=R)(d:(P.aG nm s l).1=0):
 (Q.aG nm s l).1=0/\AM (P.aG nm s l).2 (Q.aG nm s l).2/\Cm (Q.aG nm s l).2 N (R-(l.length+4)):=by
 unfold PD.aG at d ⊢;by_cases E:(P.ao (Ab nm)).1=0
 ·rw[Ae (nn E)]at d;obtain⟨O,W,Y⟩:=h.ao (N:=N+2) (nm:=Ab nm) hc E;by_cases z:((P.ao (Ab nm)).2.af (Ab nm) s l).2.1=0
  ·rw[Ae (nn z)]at d;obtain⟨-,I,X,b3⟩:=W.bV (N:=N+1) (nm:=nm) Y L z;obtain⟨c1,c2,c3⟩:=X.ae (N:=N) (nm:=Ab nm) b3 d;rw[Ae (nn E),Ae (nn z),Ae (nn O),Ae (nn I)];exact⟨c1,c2,c3⟩
  ·rw[Ai z]at d;exact absurd d z
 ·rw[Ai E]at d;exact absurd d E
def AM.aw:∀(l:List Bs) {P Q:PD},AM P Q->Cm Q (N+l.length) R->(PD.aw l P).1=0->(PD.aw l Q).1=0/\AM (PD.aw l P).2 (PD.aw l Q).2/\Cm (PD.aw l Q).2 N R
 | [],P,Q,h,hc,_=>⟨rfl,h,hc⟩
 | x::r,P,Q,h,hc,hok=>by
  unfold PD.aw at hok ⊢;by_cases d:(P.ae (Ab x)).1=0
  ·rw[Ae (nn d)]at hok;obtain⟨E,z,I⟩:=h.ae (N:=N+r.length) (nm:=Ab x) (by simpa[Nat.add_assoc] using hc) d;rw[Ae (nn d),Ae (nn E)];exact AM.aw r z I hok
  ·rw[Ai d]at hok;exact absurd hok d
def AM.aL:∀(l:List Bs) {P Q:PD},AM P Q->Cm Q (N+l.length) R->(PD.aL l P).1=0->(PD.aL l Q).1=0/\AM (PD.aL l P).2 (PD.aL l Q).2/\Cm (PD.aL l Q).2 N R
 | [],P,Q,h,hc,_=>⟨rfl,h,hc⟩
 | x::r,P,Q,h,hc,hok=>by
  unfold PD.aL at hok ⊢;by_cases d:(P.az (Ab x)).1=0
  ·rw[Ae (nn d)]at hok;obtain⟨E,z,I⟩:=h.az (N:=N+r.length) (nm:=Ab x) (by simpa[Nat.add_assoc] using hc) d;rw[Ae (nn d),Ae (nn E)];exact AM.aL r z I hok
  ·rw[Ai d]at hok;exact absurd hok d
def AM.I(h:AM P Q)(O:Cm Q (N+A.AR.length) R)(d:(A.I P).1=0):(A.I Q).1=0/\(A.I P).2.1=(A.I Q).2.1/\AM (A.I P).2.2 (A.I Q).2.2/\Cm (A.I Q).2.2 N R:=by
 unfold Ar.I at d ⊢;by_cases z:(P.aw A.AR).1=0
 ·obtain⟨I,E,L⟩:=AM.aw A.AR h O z;rw[Ae (nn z),Ae (nn I)];exact⟨rfl,rfl,E,L⟩
 ·rw[Ai z]at d;exact absurd d z
def AM.ax(h:AM P Q)(z:Cm Q (N+(A.aS Q).length) R)(d:(A.ax P).1=0):(A.ax Q).1=0/\AM (A.ax P).2 (A.ax Q).2/\Cm (A.ax Q).2 N R:=by
 unfold Ar.ax at d ⊢;rw[h.aS]at d ⊢;exact AM.aL _ h z d
def AM.av(h:AM P Q)(hc:Cm Q (N+2) R)(hR:12<=R)(d:(J.av P).1=0):(J.av Q).1=0/\(J.av P).2.1=(J.av Q).2.1/\AM (J.av P).2.2 (J.av Q).2.2/\Cm (J.av Q).2.2 N (R-12):=by
 unfold Jn.av at d ⊢;by_cases z:(P.ao (Ab (Ah (J.Ac+1)))).1=0
 ·rw[Ae (nn z)]at d;obtain⟨O,W,Y⟩:=h.ao (N:=N+1) hc z;dsimp only at d ⊢;by_cases E:((P.ao (Ab (Ah (J.Ac+1)))).2.af (Ab (Ah (J.Ac+1))) (AI (Ah (J.Ac+1))) (AO J.puts)).2.1=0
  ·obtain⟨-,L,X,I⟩:=W.bV (N:=N) (nm:=Ah (J.Ac+1)) (s:=AI (Ah (J.Ac+1))) (l:=AO J.puts) Y (by rw[CL];omega) E;rw[CL]at I;rw[Ae (nn z),Ae (nn E),Ae (nn O),Ae (nn L)];exact⟨rfl,rfl,X,I⟩
  ·rw[Ai E]at d;exact absurd d E
 ·rw[Ai z]at d;exact absurd d z
def AM.ay(h:AM P Q)(E:Cm Q (N+1) R)(hR:21<=R)(p:Pu)(d:(J.ay P p).2.1=0):(J.ay P p).1=(J.ay Q p).1/\(J.ay Q p).2.1=0/\(J.ay P p).2.2.1=(J.ay Q p).2.2.1/\AM (J.ay P p).2.2.2 (J.ay Q p).2.2.2/\Cm (J.ay Q p).2.2.2 N (R-21):=by
 unfold Jn.ay at d ⊢;cases hx:J.AE with
 | none=>exact⟨rfl,rfl,rfl,h,E.ad (by omega) (by omega)⟩
 | some x=>
  obtain⟨n,s⟩:=x;rw[hx]at d;dsimp only at d ⊢;obtain⟨L,I,O,z⟩:=h.bV (N:=N) (nm:=Ah n) E (by rw[Fj];omega) d;rw[Fj]at z;exact⟨L,I,rfl,O,z⟩
def AM.e5(h:AM P Q)(z:Cm Q (N+1) R)(d:(J.ae P).1=0):(J.ae Q).1=0/\AM (J.ae P).2 (J.ae Q).2/\Cm (J.ae Q).2 N R:=by
 unfold Jn.ae at d ⊢;cases hx:J.AE with
 | none=>exact⟨rfl,h,z.ad (by omega) (Ao _)⟩
 | some x=>
  obtain⟨n,s⟩:=x;rw[hx]at d;exact h.ae (N:=N) z d
def AM.an:∀(fresh:List (List Pu)) (last:Int) (kept:List Int) {P Q:PD},AM P Q->Cm Q (N+3*fresh.length) (R+Df fresh)->(PD.an fresh last kept P).1=0->
 (PD.an fresh last kept Q).1=0/\(PD.an fresh last kept P).2.1=(PD.an fresh last kept Q).2.1/\(PD.an fresh last kept P).2.2.1=(PD.an fresh last kept Q).2.2.1/\AM (PD.an fresh last kept P).2.2.2 (PD.an fresh last kept Q).2.2.2/\Cm (PD.an fresh last kept Q).2.2.2 N R
 | [],last,kept,P,Q,h,hc,_=>⟨rfl,rfl,rfl,h,by simpa[Df,PD.an] using hc⟩
 | l::r,last,kept,P,Q,h,hc,hok=>by
  have z:Df (l::r)=(17*l.length+4)+Df r:=by simp[Df]
  have d:∀X:PD,PD.an (l::r) last kept X=if (X.aH (last+1) l).1≠0 then ((X.aH (last+1) l).1,last+1,kept,(X.aH (last+1) l).2) else PD.an r (last+1) (kept++[last+1]) (X.aH (last+1) l).2:=λ_=>rfl
  rw[d P]at hok;rw[d P,d Q];by_cases E:(P.aH (last+1) l).1=0
  ·rw[Ae (nn E)]at hok;obtain⟨O,W,I⟩:=AM.aG (N:=N+3*r.length) (R:=R+Df (l::r)) (nm:=AJ (last+1)) (s:=AI (AJ (last+1))) (l:=Cf l) h (hc.ad (by simp;omega) (Ao _)) (by rw[IN,z];omega) E;rw[IN]at I;have L:(Q.aH (last+1) l).1=0:=O;rw[Ae (nn E),Ae (nn L)];exact AM.an r (last+1) (kept++[last+1]) W (I.ad (Ao _) (by rw[z];omega)) hok
  ·rw[Ai E]at hok;exact absurd hok E
def AM.cT{d:Int}{segs:List Int}(h:AM P Q)(hc:Cm Q (N+4) R)(hR:12+8*segs.length<=R)(z:(P.ak d segs).1=0):(Q.ak d segs).1=0/\AM (P.ak d segs).2 (Q.ak d segs).2/\Cm (Q.ak d segs).2 N (R-(12+8*segs.length)):=by
 have O:(Cj d segs).length=8+8*segs.length:=by unfold Cj;rw[Ba,CL,JL]
 unfold PD.ak at z ⊢;by_cases E:(P.aG Bv (AI AK) (Cj d segs)).1=0
 ·rw[Ae (nn E)]at z;obtain⟨W,X,a3⟩:=h.aG (N:=N+1) hc (by omega) E;obtain⟨L,Y,I⟩:=X.aN (N:=N) a3 (λe=>J3 (G5.1 e).symm) z;rw[Ae (nn E),Ae (nn W)];exact⟨L,Y,by rw[O]at I;exact I.ad (Ao _) (by omega)⟩
 ·rw[Ai E]at z;exact absurd z E
def AM.cy{segs:List Int}(h:AM P Q)(I:Cm Q (N+4) R)(W:12+8*segs.length<=R)(d:(A.ak P segs).1=0):(A.ak Q segs).1=0/\(A.ak P segs).2.1=(A.ak Q segs).2.1/\AM (A.ak P segs).2.2 (A.ak Q segs).2.2/\Cm (A.ak Q segs).2.2 N (R-(12+8*segs.length)):=by
 unfold Ar.ak at d ⊢;by_cases z:A.ix.B9=A.j.Ac+1/\A.ix.segs=segs
 ·rw[Ai z,Ai z];exact⟨rfl,rfl,h,I.ad (by omega) (by omega)⟩
 ·rw[Ae z]at d;rw[Ae z,Ae z];by_cases E:(P.ak (A.j.Ac+1) segs).1=0
  ·obtain⟨L,O,X⟩:=h.cT I W E;rw[Ae (nn E),Ae (nn L)];exact⟨rfl,rfl,O,X⟩
  ·rw[Ai E]at d;exact absurd d E
end
def PD.dl(P:PD):Nat:=P.D.A5.length
def J6(P:PD):P.Az.length=P.dl:=by
 unfold PD.Az PD.dl;rw[HD,(KQ P.D.A5).length_eq,HD]
def A1D(P:PD)(nm:ByteArray):(P.ao nm).2.dl<=P.dl+1:=by
 unfold PD.dl PD.ao CM;split
 ·exact Fa _
 ·dsimp only;split
  ·simp
  ·exact Fa _
def A1F(P:PD)(f:Nat)(x:ByteArray)(n0 e:Int):(BK P.D P.F f x n0 e).2.1.A5=P.D.A5:=by
 unfold BK;split
 ·dsimp only;split<;>rfl
 ·rfl
def A1E(P:PD)(nm:ByteArray)(l:Bs):(P.aq nm l).2.dl=P.dl:=by
 unfold PD.dl PD.aq Bx;cases lookup P.D.A5 nm with
 | none=>rfl
 | some f=>
  dsimp only
  have h:∀n0 e,(BK {P.D with n:=(bg P.D.n).2.2} P.F f (Ab l) n0 e).2.1.A5=P.D.A5:=λn0 e=>A1F ⟨{P.D with n:=(bg P.D.n).2.2},P.F⟩ f (Ab l) n0 e;split
  ·rw[h]
  ·split
   ·rw[h]
   ·rfl
def To(P:PD)(nm:ByteArray):(P.ae nm).2.dl=P.dl:=by
 unfold PD.dl PD.ae Cz;cases lookup P.D.A5 nm<;>rfl
def Tq(P:PD)(nm:ByteArray):(P.az nm).2.dl<=P.dl:=by
 unfold PD.dl PD.az Ds;split
 ·exact Ao _
 ·dsimp only;split
  ·dsimp only;rw[Ba,BI,Cl];omega
  ·exact Ao _
def Tp(P:PD)(old nm:ByteArray):(P.aN old nm).2.dl<=P.dl+1:=by
 unfold PD.dl PD.aN D3;cases lookup P.D.A5 old with
 | none=>exact Fa _
 | some f=>
  dsimp only
  split
  ·exact Fa _
  ·dsimp only;split
   ·dsimp only
    have:=NG P.D.A5 (B6 P.D.A5 old).toNat nm P.D.A5.length;rw[Ba];simp;omega
   ·exact Fa _
def Mq(P:PD)(nm:Bs)(s:Nat)(l:Bs):(P.aG nm s l).2.dl<=P.dl+1:=by
 have d:=A1D P (Ab nm);have h:((P.ao (Ab nm)).2.af (Ab nm) s l).2.2.dl=(P.ao (Ab nm)).2.dl:=A1E _ _ _;unfold PD.aG;split
 ·exact d
 ·split
  ·rw[h];exact d
  ·rw[To,h];exact d
def OL:∀(l:List Bs) (P:PD),(PD.aL l P).2.dl<=P.dl
 | [],P=>Ao _
 | x::r,P=>by
  have d:=Tq P (Ab x);unfold PD.aL;split
  ·exact d
  ·exact AQ (OL r _) d
def OK:∀(l:List Bs) (P:PD),(PD.aw l P).2.dl=P.dl
 | [],P=>rfl
 | x::r,P=>by
  have d:=To P (Ab x);unfold PD.aw;split
  ·exact d
  ·exact(OK r _).trans d
def Mr:∀(fresh:List (List Pu)) (last:Int) (kept:List Int) (P:PD),(PD.an fresh last kept P).2.2.2.dl<=P.dl+fresh.length/\(PD.an fresh last kept P).2.2.1.length<=kept.length+fresh.length
 | [],last,kept,P=>⟨Ao _,by simp[PD.an]⟩
 | l::r,last,kept,P=>by
  have h1:(P.aH (last+1) l).2.dl<=P.dl+1:=Mq _ _ _ _;have d:PD.an (l::r) last kept P=if (P.aH (last+1) l).1≠0 then ((P.aH (last+1) l).1,last+1,kept,(P.aH (last+1) l).2) else PD.an r (last+1) (kept++[last+1]) (P.aH (last+1) l).2:=rfl
  rw[d];split
  ·exact⟨by simp;omega,by simp⟩
  ·obtain⟨i1,h⟩:=Mr r (last+1) (kept++[last+1]) (P.aH (last+1) l).2;exact⟨by simp;omega,by simp at h ⊢;omega⟩
def Tr(A:Ar)(P:PD)(l:List Int):(A.ak P l).2.2.dl<=P.dl+2:=by
 have d:(P.ak (A.j.Ac+1) l).2.dl<=P.dl+2:=by
  unfold PD.ak;have h2:=Mq P Bv (AI AK) (Cj (A.j.Ac+1) l);split
  ·omega
  ·have h3:=Tp (P.aG Bv (AI AK) (Cj (A.j.Ac+1) l)).2 (Ab Bv) (Ab AK);omega
 unfold Ar.ak;split
 ·exact UD _ _
 ·split
  ·exact d
  ·exact d
def LZ(A:Ar)(P:PD):(A.aS P).length<=P.dl:=by
 rw[<-J6];unfold Ar.aS;exact MV _ _
section
variable {P Q:PD} {N R:Nat} {A:Ar}
def AM.aJ(h:AM P Q)(kept:List Int)(fresh:List (List Pu))(hc:Cm Q (N+A.AR.length+2*Q.dl+4*fresh.length+8) (R+Df fresh+12+8*(kept.length+fresh.length)))(d:(A.aJ P kept fresh).1=0):
 (A.aJ Q kept fresh).1=0/\(A.aJ P kept fresh).2.1=(A.aJ Q kept fresh).2.1/\AM (A.aJ P kept fresh).2.2 (A.aJ Q kept fresh).2.2/\Cm (A.aJ Q kept fresh).2.2 N R:=by
 unfold Ar.aJ at d ⊢;dsimp only at d ⊢;by_cases W:(A.I P).1=0
 ·rw[Ae (nn W)]at d;obtain⟨a1,a2,a3,a4⟩:=h.I (N:=N+2*Q.dl+4*fresh.length+8) (hc.ad (by omega) (Ao _)) W;rw[Ae (nn W),Ae (nn a1)];rw[a2]at d ⊢;have d1:(A.I Q).2.2.dl=Q.dl:=by unfold Ar.I;split<;>exact OK _ _
  by_cases L:((A.I Q).2.1.ax (A.I P).2.2).1=0
  ·rw[Ae (nn L)]at d;have o1:=LZ (A.I Q).2.1 (A.I Q).2.2;obtain⟨b1,b2,b3⟩:=a3.ax (A:=(A.I Q).2.1) (N:=N+Q.dl+4*fresh.length+8) (a4.ad (by omega) (Ao _)) L;(have d2:((A.I Q).2.1.ax (A.I Q).2.2).2.dl<=Q.dl:=by rw[<-d1];exact OL _ _);rw[Ae (nn L),Ae (nn b1)];by_cases Y:(PD.an fresh (A.I Q).2.1.Ac kept ((A.I Q).2.1.ax (A.I P).2.2).2).1=0
   ·rw[Ae (nn Y)]at d;obtain⟨c1,c2,c3,c4,c5⟩:=AM.an (N:=N+Q.dl+fresh.length+8) (R:=R+12+8*(kept.length+fresh.length)) fresh (A.I Q).2.1.Ac kept b2 (b3.ad (by omega) (by omega)) Y;obtain⟨d3,d4⟩:=Mr fresh (A.I Q).2.1.Ac kept ((A.I Q).2.1.ax (A.I Q).2.2).2;rw[Ae (nn Y),Ae (nn c1)];rw[c2,c3]at d ⊢;obtain⟨z,aD⟩:∃z:Ar,({ (A.I Q).2.1 with Ac:=(PD.an fresh (A.I Q).2.1.Ac kept ((A.I Q).2.1.ax (A.I Q).2.2).2).2.1}:Ar)=z:=⟨_,rfl⟩;rw[aD]at d ⊢;generalize hsg:(PD.an fresh (A.I Q).2.1.Ac kept ((A.I Q).2.1.ax (A.I Q).2.2).2).2.2.1=sg at d d4 ⊢;obtain⟨aB,aA⟩:∃aB,(PD.an fresh (A.I Q).2.1.Ac kept ((A.I Q).2.1.ax (A.I P).2.2).2).2.2.2=aB:=⟨_,rfl⟩;obtain⟨E,I⟩:∃E,(PD.an fresh (A.I Q).2.1.Ac kept ((A.I Q).2.1.ax (A.I Q).2.2).2).2.2.2=E:=⟨_,rfl⟩;rw[aA]at d c4;rw[aA,I];rw[I]at c4 c5 d3;by_cases O:(z.ak aB sg).1=0
    ·rw[Ae (nn O)]at d;obtain⟨e1,e2,e3,e4⟩:=c4.cy (A:=z) (segs:=sg) (N:=N+Q.dl+fresh.length+4) (c5.ad (by omega) (Ao _)) (by omega) O;have d5:=Tr z E sg;rw[Ae (nn O),Ae (nn e1)];rw[e2]at d ⊢;unfold Ar.a6 at d ⊢;by_cases X:((z.ak E sg).2.1.ax (z.ak aB sg).2.2).1=0
     ·rw[Ae (nn X)]at d;have o2:=LZ (z.ak E sg).2.1 (z.ak E sg).2.2;obtain⟨f1,f2,f3⟩:=e3.ax (A:=(z.ak E sg).2.1) (N:=N+1) (e4.ad (by omega) (Ao _)) X;obtain⟨g1,g2,g3⟩:=f2.aF (N:=N) f3 d;rw[Ae (nn X),Ae (nn f1)];exact⟨g1,rfl,g2,g3.ad (Ao _) (by omega)⟩
     ·rw[Ai X]at d;exact absurd d X
    ·rw[Ai O]at d;exact absurd d O
   ·rw[Ai Y]at d;exact absurd d Y
  ·rw[Ai L]at d;exact absurd d L
 ·rw[Ai W]at d;exact absurd d W
end
def Co(n:DN)(e:Int)(n':DN):Prop:=
 (e≠5/\e≠6/\n'.Bj=n.Bj/\n'.fulls=n.fulls/\n'.Bh=n.Bh)\/(e=5/\n'.Bj=wrap64 (n.Bj+1)/\n'.fulls=n.fulls)\/(e=6/\n'.Bj=wrap64 (n.Bj+1)/\n'.fulls=wrap64 (n.fulls+1)/\n'.Bh=n.Bh)
def Co.C(n:DN){e:Int}(d:e≠5)(h:e≠6):Co n e n:=.inl ⟨d,h,rfl,rfl,rfl⟩
def Co.Au{n E n2:DN}{a e:Int}(h:Co n a E)(I:a=0)(d:Co E e n2):Co n e n2:=by
 subst I;rcases h with⟨_,_,O,W,L⟩|⟨z,_⟩|⟨z,_⟩
 ·unfold Co at d ⊢;rw[O,W,L]at d;exact d
 ·cases z
 ·cases z
def JS(n:DN):Co n (bg n).2.1 (bg n).2.2:=by
 unfold bg;dsimp only
 split
 ·exact .inr (.inl ⟨rfl,rfl,rfl⟩)
 ·split
  ·exact .inr (.inl ⟨rfl,rfl,rfl⟩)
  ·split
   ·exact .inr (.inl ⟨rfl,rfl,rfl⟩)
   ·exact .inl ⟨by simp,by simp,rfl,rfl,rfl⟩
def Hc(n:DN):(bg n).2.1=0\/(bg n).2.1=5:=by
 unfold bg;dsimp only
 split
 ·exact .inr rfl
 ·split
  ·exact .inr rfl
  ·split
   ·exact .inr rfl
   ·exact .inl rfl
section
variable {P:PD} {A:Ar} {J:Jn} {nm old:ByteArray}
def KV(P:PD)(nm:ByteArray):Co P.D.n (P.ao nm).1 (P.ao nm).2.D.n:=by
 unfold PD.ao CM;split
 ·exact Co.C _ (by simp) (by simp)
 ·have:=JS P.D.n;dsimp only
  split<;>exact this
def ME(P:PD)(nm:ByteArray):Co P.D.n (P.ae nm).1 (P.ae nm).2.D.n:=by
 unfold PD.ae Cz;split
 ·exact Co.C _ (by simp) (by simp)
 ·exact JS P.D.n
def U7(P:PD):Co P.D.n P.aF.1 P.aF.2.D.n:=by
 have:=JS P.D.n;unfold PD.aF DW;dsimp only
 split<;>exact this
def U9(P:PD)(nm:ByteArray):Co P.D.n (P.az nm).1 (P.az nm).2.D.n:=by
 have:=JS P.D.n;unfold PD.az Ds;split
 ·exact Co.C _ (by simp) (by simp)
 ·dsimp only
  split<;>exact this
def A27(P:PD)(old nm:ByteArray):Co P.D.n (P.aN old nm).1 (P.aN old nm).2.D.n:=by
 have:=JS P.D.n;unfold PD.aN D3;split
 ·exact Co.C _ (by simp) (by simp)
 ·split
  ·exact Co.C _ (by simp) (by simp)
  ·dsimp only
   split<;>exact this
def Ud(D:DS)(F:Nat->FC)(f:Nat)(x:ByteArray)(n0 e:Int)(n:DN)(h:Co n e D.n)(z:e=0\/e=5):Co n (BK D F f x n0 e).1 (BK D F f x n0 e).2.1.n:=by
 unfold BK;split
 ·dsimp only
  rcases z with rfl|rfl
  ·rw[Ai rfl,Ai rfl];rcases h with⟨_,_,I,L,E⟩|⟨d,_⟩|⟨d,_⟩
   ·exact .inr (.inr ⟨rfl,by dsimp only;rw[I],by dsimp only;rw[L],E⟩)
   ·cases d
   ·cases d
  ·rw[Ae (by decide),Ae (by decide)];exact h
 ·exact h
def A3f(P:PD)(nm:ByteArray)(l:Bs):Co P.D.n (P.aq nm l).1 (P.aq nm l).2.D.n:=by
 have d:=JS P.D.n;have h:=Hc P.D.n;unfold PD.aq Bx;split
 ·exact Co.C _ (by simp) (by simp)
 ·dsimp only
  split
  ·exact Ud _ _ _ _ _ _ _ d h
  ·split
   ·exact Ud _ _ _ _ _ _ _ d h
   ·exact d
def MG(P:PD)(nm:ByteArray)(s:Nat)(l:Bs):Co P.D.n (P.af nm s l).2.1 (P.af nm s l).2.2.D.n:=A3f P nm (AS s l)
def En{x:Int}(h:¬x≠0):x=0:=by omega
def MD(P:PD)(nm:Bs)(s:Nat)(l:Bs):Co P.D.n (P.aG nm s l).1 (P.aG nm s l).2.D.n:=by
 unfold PD.aG;split
 ·exact KV P _
 ·rename_i d;split
  ·exact(KV P _).Au (En d) (MG _ _ _ _)
  ·rename_i h;exact((KV P _).Au (En d) (MG _ _ _ _)).Au (En h) (ME _ _)
def U8:∀(l:List Bs) (P:PD),Co P.D.n (PD.aw l P).1 (PD.aw l P).2.D.n
 | [],P=>Co.C _ (by simp[PD.aw]) (by simp[PD.aw])
 | nm::r,P=>by
  unfold PD.aw;split
  ·exact ME P _
  ·rename_i d;exact(ME P _).Au (En d) (U8 r _)
def MF:∀(l:List Bs) (P:PD),Co P.D.n (PD.aL l P).1 (PD.aL l P).2.D.n
 | [],P=>Co.C _ (by simp[PD.aL]) (by simp[PD.aL])
 | nm::r,P=>by
  unfold PD.aL;split
  ·exact U9 P _
  ·rename_i d;exact(U9 P _).Au (En d) (MF r _)
def JR(A:Ar)(P:PD):Co P.D.n (A.I P).1 (A.I P).2.2.D.n:=by
 have:=U8 A.AR P;unfold Ar.I;split
 ·exact this
 ·rename_i d;rw[En d]at this;exact this
def Uc(J:Jn)(P:PD):Co P.D.n (J.av P).1 (J.av P).2.2.D.n:=by
 unfold Jn.av;split
 ·exact KV P _
 ·rename_i d;have:=(KV P _).Au (En d) (MG (P.ao (Ab (Ah (J.Ac+1)))).2 (Ab (Ah (J.Ac+1))) (AI (Ah (J.Ac+1))) (AO J.puts));dsimp only
  split
  ·exact this
  ·rename_i h;rw[En h]at this;exact this
def Ua(J:Jn)(P:PD)(p:Pu):Co P.D.n (J.ay P p).2.1 (J.ay P p).2.2.2.D.n:=by
 unfold Jn.ay;split
 ·exact Co.C _ (by simp) (by simp)
 ·exact MG P _ _ _
def A3a(J:Jn)(P:PD)(p:Pu):Co P.D.n (J.af P p).2.1 (J.af P p).2.2.2.D.n:=by
 unfold Jn.af;split
 ·split
  ·exact Uc J P
  ·rename_i d;exact(Uc J P).Au (En d) (Ua _ _ p)
 ·exact Ua J P p
def A3e(A:Ar)(P:PD)(p:Pu):Co P.D.n (A.af P p).2.1 (A.af P p).2.2.2.D.n:=by
 unfold Ar.af;split
 ·exact JR A P
 ·rename_i d;exact(JR A P).Au (En d) (A3a _ _ p)
def A29(J:Jn)(P:PD):Co P.D.n (J.ae P).1 (J.ae P).2.D.n:=by
 unfold Jn.ae;split
 ·exact Co.C _ (by simp) (by simp)
 ·exact ME P _
def A3d(A:Ar)(P:PD):Co P.D.n (A.ae P).1 (A.ae P).2.2.D.n:=by
 unfold Ar.ae;split
 ·exact JR A P
 ·rename_i z;have h:=(JR A P).Au (En z) (A29 (A.I P).2.1.j (A.I P).2.2);split
  ·exact h
  ·rename_i d;exact h.Au (En d) (U7 _)
def Ub:∀(fresh:List (List Pu)) (last:Int) (kept:List Int) (P:PD),Co P.D.n (PD.an fresh last kept P).1 (PD.an fresh last kept P).2.2.2.D.n
 | [],_,_,P=>Co.C _ (by simp[PD.an]) (by simp[PD.an])
 | l::r,last,kept,P=>by
  unfold PD.an;split
  ·exact MD P _ _ _
  ·rename_i d;exact(MD P _ _ _).Au (En d) (Ub r _ _ _)
def A28(P:PD)(d:Int)(segs:List Int):Co P.D.n (P.ak d segs).1 (P.ak d segs).2.D.n:=by
 unfold PD.ak;split
 ·exact MD P _ _ _
 ·rename_i h;exact(MD P _ _ _).Au (En h) (A27 _ _ _)
def A3c(A:Ar)(P:PD)(segs:List Int):Co P.D.n (A.ak P segs).1 (A.ak P segs).2.2.D.n:=by
 have:=A28 P (A.j.Ac+1) segs;unfold Ar.ak;split
 ·exact Co.C _ (by simp) (by simp)
 ·split
  ·exact this
  ·rename_i d;rw[En d]at this;exact this
def A3b(A:Ar)(P:PD):Co P.D.n (A.a6 P).1 (A.a6 P).2.2.D.n:=by
 unfold Ar.a6;split
 ·exact MF _ P
 ·rename_i d;exact(MF _ P).Au (En d) (U7 _)
def A26(A:Ar)(P:PD)(kept:List Int)(fresh:List (List Pu)):Co P.D.n (A.aJ P kept fresh).1 (A.aJ P kept fresh).2.2.D.n:=by
 unfold Ar.aJ;dsimp only
 split
 ·exact JR A P
 ·rename_i L;have d:=(JR A P).Au (En L) (MF ((A.I P).2.1.aS (A.I P).2.2) (A.I P).2.2);split
  ·exact d
  ·rename_i E;have h:=d.Au (En E) (Ub fresh (A.I P).2.1.Ac kept _);split
   ·exact h
   ·rename_i O;have z:=h.Au (En O) (A3c { (A.I P).2.1 with Ac:=(PD.an fresh (A.I P).2.1.Ac kept ((A.I P).2.1.ax (A.I P).2.2).2).2.1} _ (PD.an fresh (A.I P).2.1.Ac kept ((A.I P).2.1.ax (A.I P).2.2).2).2.2.1);split
    ·exact z
    ·rename_i I;exact z.Au (En I) (A3b _ _)
def Qe(P:PD)(nm:ByteArray):(P.ae nm).1≠6:=by
 unfold PD.ae Cz;split
 ·simp
 ·have:=Hc P.D.n;dsimp only;omega
def Wa(P:PD):P.aF.1≠6:=by
 have:=Hc P.D.n;unfold PD.aF DW;dsimp only;omega
def Qk:∀(l:List Bs) (P:PD),(PD.aw l P).1≠6
 | [],P=>by simp[PD.aw]
 | nm::r,P=>by
  unfold PD.aw;split
  ·exact Qe P _
  ·exact Qk r _
def Qz(A:Ar)(P:PD):(A.I P).1≠6:=by
 unfold Ar.I;split
 ·exact Qk _ P
 ·simp
def U4(A:Ar)(P:PD):(A.ae P).1≠6:=by
 unfold Ar.ae;split
 ·exact Qz A P
 ·split
  ·unfold Jn.ae;split
   ·simp
   ·exact Qe _ _
  ·exact Wa _
end
def Bz(P:PD):List (List AN):=P.D.AF::P.D.Aq
structure DI (bd:Int×Int) (P:PD) (puts:List Pu) (Ad:Nat) (o:Int):Prop where
 DH:∀s∈Bz P,Holds bd (vw P.F s) puts Ad o
 Ap:∀s∈Bz P,(s.map (·.2)).Nodup
 Cd:∀s∈Bz P,(s.map (·.1)).Nodup
 Cs:P.D.A5∈Bz P
section
variable {bd:Int×Int} {P P':PD} {puts:List Pu} {Ad:Nat} {o:Int} {nm:Bs}
def DI.bl(h:DI bd P puts Ad o):GZ P:=⟨h.Ap _ h.Cs,h.Cd _ h.Cs⟩
def DI.b6(h:DI bd P puts Ad o)(q:List Pu):DI bd P (puts++q) Ad o:=⟨λs d=>(h.DH s d).b6 q,h.Ap,h.Cd,h.Cs⟩
def DI.ba{d:Int}(h:DI bd P puts Ad o)(z:o<=d):DI bd P puts Ad d:=⟨λs E=>(h.DH s E).ba z,h.Ap,h.Cd,h.Cs⟩
def DI.aR{d:Int×Int}(h:DI bd P puts Ad o)(z:HI bd d):DI d P puts Ad o:=⟨λs E=>(h.DH s E).aR z,h.Ap,h.Cd,h.Cs⟩
def Ip{s:List AN}(d:s∈Bz P){e:AN}(z:e∈s):e.2≠P.D.AV:=λh=>P.D.cx (by
 rcases BX.1 d with rfl|d
 ·exact .inr (.inl ⟨e,z,h⟩)
 ·exact .inr (.inr ⟨s,d,e,z,h⟩))
def Ke{F F':Nat->FC}{s:List AN}(h:∀e∈s,F' e.2=F e.2):vw F' s=vw F s:=by
 funext m
 unfold vw;cases hx:lookup s (Ab m) with
 | none=>rfl
 | some f=>simp[h _ (E9 hx)]
def Kd{F:Nat->FC}{s:List AN}{g:Nat}(z:lookup s (Ab nm)=none)(m:Bs):vw F (s++[(Ab nm,g)]) m=if m=nm then some (F g) else vw F s m:=by
 unfold vw;rw[lookup_append];by_cases d:m=nm
 ·subst d;rw[z];simp[lookup]
 ·have h:¬Ab nm=Ab m:=λe=>d (G5.1 e).symm;simp[lookup,h,d]
def Holds.bL{V V':View}(h:Holds bd V puts Ad o)(h0:V nm=none)(z:nm=Bv\/∃k,(isNum k=true/\k<=bd.2)/\nm=AJ k)(c:FC)(hc:0<=c.2/\c.2<=c.1.length)(hV:∀m,V' m=if m=nm then some c else V m):Holds bd V' puts Ad o:=by
 obtain⟨ix,sg,cl,lo,nb,W,X,hs,g1,g2⟩:=h;have I:∀m,(m=AK\/(∃x∈sg,m=AJ x.1)\/∃n,isNum n=true/\ix.B9<=n/\m=Ah n)->m≠nm:=by
  rintro m (rfl|⟨x,hx,rfl⟩|⟨n,hn,_,rfl⟩) e
  ·rcases z with z|⟨k,_,z⟩
   ·exact J3 (e.trans z)
   ·exact Jw k (z.symm.trans e.symm)
  ·obtain⟨_,d,L,_⟩:=W.Cy x hx;rw[e,h0]at L;cases L
  ·rcases z with z|⟨k,_,z⟩
   ·exact KE n (e.trans z)
   ·exact G8 n k (e.trans z)
 have E:∀m,m≠nm->V' m=V m:=λm O=>by rw[hV,Ae O]
 refine⟨ix,sg,cl,lo,nb,W.bF (λm O=>?_) (λm O=>?_) (λm d L=>?_),X,hs,λn l e=>?_,g2⟩
 ·rw[E m (I m O)];cases hv:V m with
  | none=>exact .inl ⟨rfl,rfl⟩
  | some d=>exact .inr ⟨d,d,rfl,rfl,rfl,.inl rfl⟩
 ·by_cases e:m=nm
  ·subst e;rcases z with rfl|⟨k,Y,rfl⟩
   ·exact S2 bd
   ·exact S1 Y.1 Y.2
  ·rw[E m e]at O;exact W.El m O
 ·by_cases e:m=nm
  ·rw[hV,Ai e]at L;cases L;exact hc
  ·rw[E m e]at L;exact W.E3 m d L
 ·obtain⟨d,d1,d2,d3⟩:=g1 n l e;have hq:=(W.Ac n l e).1;exact⟨d,by rw[E _ (I _ (.inr (.inr ⟨n,hq.1,hq.2,rfl⟩)))];exact d1,d2,d3⟩
structure Extra (P:PD) (nm:Bs) (P':PD):Prop where
 Et:∀f,f≠P.D.AV->P'.F f=P.F f
 E3:0<=(P'.F P.D.AV).2/\(P'.F P.D.AV).2<=(P'.F P.D.AV).1.length
 AF:P'.D.AF=P.D.AF
 dirs:(P'.D.A5=P.D.A5/\P'.D.Aq=P.D.Aq)\/(lookup P.D.A5 (Ab nm)=none/\P'.D.A5=P.D.A5++[(Ab nm,P.D.AV)]/\P'.D.Aq=P.D.Aq++[P.D.A5++[(Ab nm,P.D.AV)]])
def DI.bL(h:DI bd P puts Ad o)(I:Extra P nm P')(W:nm=Bv\/∃k,(isNum k=true/\k<=bd.2)/\nm=AJ k):DI bd P' puts Ad o:=by
 have old:∀s∈Bz P,vw P'.F s=vw P.F s:=λs d=>Ke λe L=>I.Et _ (Ip d L);rcases I.dirs with⟨d1,d2⟩|⟨d0,d1,d2⟩
 ·have es:Bz P'=Bz P:=by unfold Bz;rw[I.AF,d2]
  exact⟨λs d=>by rw[es]at d;rw[old s d];exact h.DH s d,by rw[es];exact h.Ap,by rw[es];exact h.Cd,by rw[es,d1];exact h.Cs⟩
 ·have es:Bz P'=Bz P++[P.D.A5++[(Ab nm,P.D.AV)]]:=by unfold Bz;rw[I.AF,d2];rfl
  have z:∀s,s∈Bz P'->s∈Bz P\/s=P.D.A5++[(Ab nm,P.D.AV)]:=λs d=>by
   rw[es]at d;rcases AY.1 d with d|d
   ·exact .inl d
   ·exact .inr (by simpa using d)
  refine⟨λs d=>?_,λs d=>?_,λs d=>?_,by rw[es,d1];simp⟩
  ·rcases z s d with d|rfl
   ·rw[old s d];exact h.DH s d
   ·refine(h.DH _ h.Cs).bL (nm:=nm) (c:=P'.F P.D.AV) (by unfold vw;rw[d0];rfl) W I.E3 λm=>?_;rw[Kd d0,old _ h.Cs]
  ·rcases z s d with d|rfl
   ·exact h.Ap s d
   ·rw[EV,Hf];refine⟨h.Ap _ h.Cs,by simp,λa O b E=>?_⟩;simp at E;subst E;obtain⟨e,L,rfl⟩:=CD.1 O;exact Ip h.Cs L
  ·rcases z s d with d|rfl
   ·exact h.Cd s d
   ·rw[EV,Hf];refine⟨h.Cd _ h.Cs,by simp,λa O b E=>?_⟩;simp at E;subst E;obtain⟨e,L,rfl⟩:=CD.1 O;exact(IW.1 d0) e L
end
section
variable {bd:Int×Int} {P P':PD} {puts:List Pu} {Ad:Nat} {o:Int} {nm:Bs}
def KM(P:PD)(nm:Bs):Extra P nm (P.ao (Ab nm)).2/\((P.ao (Ab nm)).1=0->lookup (P.ao (Ab nm)).2.D.A5 (Ab nm)=some P.D.AV):=by
 unfold PD.ao CM;by_cases E:Ab nm=ByteArray.empty\/B6 P.D.A5 (Ab nm)≥0
 ·rw[Ai E];exact⟨⟨λf d=>by simp[upd,d],by simp[upd],rfl,.inl ⟨rfl,rfl⟩⟩,λh=>by cases h⟩
 ·rw[Ae E];have I:lookup P.D.A5 (Ab nm)=none:=(J5 _ _).1 (by (have:¬B6 P.D.A5 (Ab nm)≥0:=λe=>E (.inr e));omega);dsimp only
  by_cases z:(bg P.D.n).1=true
  ·rw[Ai z];refine⟨⟨λf d=>by simp[upd,d],by simp[upd],rfl,.inr ⟨I,rfl,rfl⟩⟩,λ_=>?_⟩;dsimp only
   rw[lookup_append,I];simp[lookup]
  ·rw[Ae z];exact⟨⟨λf d=>by simp[upd,d],by simp[upd],rfl,.inl ⟨rfl,rfl⟩⟩,λh=>absurd (GW h) z⟩
def Tw(D:DS)(F:Nat->FC)(f:Nat)(x:ByteArray)(n0 e:Int):(BK D F f x n0 e).2.1.A5=D.A5/\(BK D F f x n0 e).2.1.AF=D.AF/\(BK D F f x n0 e).2.1.Aq=D.Aq/\∃j:Nat,(BK D F f x n0 e).2.2=upd F f ((F f).1++x.data.toList.take j,(F f).2):=by
 unfold BK;split
 ·dsimp only
  refine⟨?_,?_,?_,_,rfl⟩<;>split<;>rfl
 ·exact⟨rfl,rfl,rfl,_,rfl⟩
def Iu{P:PD}{nm:ByteArray}{f:Nat}(l:Bs)(h:lookup P.D.A5 nm=some f):(P.aq nm l).2.D.A5=P.D.A5/\(P.aq nm l).2.D.AF=P.D.AF/\(P.aq nm l).2.D.Aq=P.D.Aq/\
 ((P.aq nm l).2.F=P.F\/∃j:Nat,(P.aq nm l).2.F=upd P.F f ((P.F f).1++l.take j,(P.F f).2)):=by
 unfold PD.aq Bx;rw[h];dsimp only
 have L:(Ab l).data.toList=l:=by simp[Ab]
 split
 ·obtain⟨z,E,I,j,d⟩:=Tw {P.D with n:=(bg P.D.n).2.2} P.F f (Ab l) (Ab l).size (bg P.D.n).2.1;exact⟨z,E,I,.inr ⟨j,by rw[d,L]⟩⟩
 ·split
  ·obtain⟨z,E,I,j,d⟩:=Tw {P.D with n:=(bg P.D.n).2.2} P.F f (Ab l) ((bg P.D.n).2.2.BC % (Ab l).size) (bg P.D.n).2.1;exact⟨z,E,I,.inr ⟨j,by rw[d,L]⟩⟩
  ·exact⟨rfl,rfl,rfl,.inl rfl⟩
def IH{P:PD}{nm:ByteArray}{f:Nat}(h:lookup P.D.A5 nm=some f):(P.ae nm).2.D.A5=P.D.A5/\(P.ae nm).2.D.AF=P.D.AF/\(P.ae nm).2.D.Aq=P.D.Aq/\
 ((P.ae nm).2.F=P.F\/(P.ae nm).2.F=upd P.F f ((P.F f).1,(P.F f).1.length)):=by
 unfold PD.ae Cz;rw[h];dsimp only
 refine⟨rfl,rfl,rfl,?_⟩;split
 ·exact .inr rfl
 ·exact .inl rfl
def Extra.aq(h:Extra P nm P')(E:lookup P'.D.A5 (Ab nm)=some P.D.AV)(l:Bs):Extra P nm (P'.aq (Ab nm) l).2:=by
 obtain⟨I,L,O,d⟩:=Iu l E;refine⟨λf z=>?_,?_,L.trans h.AF,by rw[I,O];exact h.dirs⟩
 ·rcases d with d|⟨j,d⟩
  ·rw[d];exact h.Et f z
  ·rw[d];simp[upd,z];exact h.Et f z
 ·have:=h.E3;rcases d with d|⟨j,d⟩
  ·rw[d];exact this
  ·rw[d];simp only[upd,Ci,Ba];omega
def Extra.ae(h:Extra P nm P')(E:lookup P'.D.A5 (Ab nm)=some P.D.AV):Extra P nm (P'.ae (Ab nm)).2:=by
 obtain⟨I,L,O,d⟩:=IH E;refine⟨λf z=>?_,?_,L.trans h.AF,by rw[I,O];exact h.dirs⟩
 ·rcases d with d|d
  ·rw[d];exact h.Et f z
  ·rw[d];simp[upd,z];exact h.Et f z
 ·have:=h.E3;rcases d with d|d
  ·rw[d];exact this
  ·rw[d];simp only[upd,Ci];omega
def JM(P:PD)(nm:Bs)(s:Nat)(l:Bs):Extra P nm (P.aG nm s l).2/\((P.aG nm s l).1=0->lookup (P.aG nm s l).2.D.A5 (Ab nm)=some P.D.AV/\BZ ((P.aG nm s l).2.F P.D.AV)):=by
 obtain⟨W,e2⟩:=KM P nm;unfold PD.aG;by_cases z:(P.ao (Ab nm)).1=0
 ·rw[Ae (nn z)];have I:=e2 z;have O:=W.aq I (AS s l);have d:lookup ((P.ao (Ab nm)).2.aq (Ab nm) (AS s l)).2.D.A5 (Ab nm)=some P.D.AV:=by rw[(Iu (AS s l) I).1];exact I
  have Y:((P.ao (Ab nm)).2.af (Ab nm) s l).2.2=((P.ao (Ab nm)).2.aq (Ab nm) (AS s l)).2:=rfl;by_cases L:((P.ao (Ab nm)).2.af (Ab nm) s l).2.1=0
  ·rw[Ae (nn L),Y];refine⟨O.ae d,λE=>?_⟩;obtain⟨X,_,_,_⟩:=IH d;refine⟨by rw[X];exact d,?_⟩;unfold PD.ae Cz at E ⊢;rw[d]at E ⊢;dsimp only at E ⊢;rw[Ai E];simp[upd,BZ]
  ·rw[Ai L];exact⟨O,λh=>absurd h L⟩
 ·rw[Ai z];exact⟨W,λh=>absurd h z⟩
def DI.aG(h:DI bd P puts Ad o)(d:nm=Bv\/∃k,(isNum k=true/\k<=bd.2)/\nm=AJ k)(s:Nat)(l:Bs):DI bd (P.aG nm s l).2 puts Ad o:=h.bL (JM P nm s l).1 d
def DI.an:∀(fresh:List (List Pu)) (last:Int) (kept:List Int) {P:PD},DI bd P puts Ad o->0<=last->last+fresh.length<=4611686018427387904->last+fresh.length<=bd.2->DI bd (PD.an fresh last kept P).2.2.2 puts Ad o
 | [],last,kept,P,h,_,_,_=>h
 | l::r,last,kept,P,h,h0,h1,h2=>by
  simp only[Cq]at h1 h2;have d:PD.an (l::r) last kept P=if (P.aH (last+1) l).1≠0 then ((P.aH (last+1) l).1,last+1,kept,(P.aH (last+1) l).2) else PD.an r (last+1) (kept++[last+1]) (P.aH (last+1) l).2:=rfl
  have z:DI bd (P.aH (last+1) l).2 puts Ad o:=h.aG (.inr ⟨last+1,⟨by unfold isNum;simp;omega,by omega⟩,rfl⟩) _ _;rw[d];split
  ·exact z
  ·exact DI.an r (last+1) _ z (by omega) (by omega) (by omega)
def DI.cz(h:DI bd P puts Ad o)(nm:ByteArray):DI bd (P.ae nm).2 puts Ad o:=by
 cases hx:lookup P.D.A5 nm with
 | none=>
  have e:(P.ae nm).2=P:=by unfold PD.ae Cz;rw[hx]
  rw[e];exact h
 | some f=>
  obtain⟨I,L,O,d⟩:=IH hx;have es:Bz (P.ae nm).2=Bz P:=by unfold Bz;rw[L,O]
  refine⟨λs E=>?_,by rw[es];exact h.Ap,by rw[es];exact h.Cd,by rw[es,I];exact h.Cs⟩;rw[es]at E;rcases d with d|d
  ·rw[d];exact h.DH s E
  ·refine(h.DH s E).bF λm=>?_;unfold vw;cases hk:lookup s (Ab m) with
   | none=>exact⟨λc z=>by simp at z,λ_=>rfl⟩
   | some g=>
    refine⟨λc z=>?_,λW=>by simp at W⟩;simp at z;subst z;rw[d];by_cases e:g=f
    ·subst e;exact⟨_,rfl,by simp[upd],.inr (by simp[upd,BZ])⟩
    ·exact⟨P.F g,by simp[upd,e],rfl,.inl rfl⟩
def DI.aw:∀(l:List Bs) {P:PD},DI bd P puts Ad o->DI bd (PD.aw l P).2 puts Ad o
 | [],P,h=>h
 | x::r,P,h=>by
  have d:=h.cz (Ab x);unfold PD.aw;split
  ·exact d
  ·exact DI.aw r d
def DI.I{A:Ar}(h:DI bd P puts Ad o):DI bd (A.I P).2.2 puts Ad o:=by
 unfold Ar.I;split
 ·exact h.aw _
 ·exact h.aw _
def DI.en(h:DI bd P puts Ad o):DI bd P.aF.2 puts Ad o:=by
 unfold PD.aF DW;dsimp only
 split
 ·have z:=h.Cs;exact⟨λs d=>by simp[Bz]at d;subst d;exact h.DH _ z,λs d=>by simp[Bz]at d;subst d;exact h.Ap _ z,λs d=>by simp[Bz]at d;subst d;exact h.Cd _ z,by simp[Bz]⟩
 ·exact⟨h.DH,h.Ap,h.Cd,h.Cs⟩
end
def CX(bd:Int×Int)(V:View)(ix:Ix)(sg cl:List (Int×List Pu))(lo:Option (Int×List Pu))(puts:List Pu)(Ad:Nat)(o:Int):Prop:=
 ∃nb,CW bd V ix sg cl lo/\nb<=puts.length/\C6 o (AG sg++AG cl) (puts.take nb)/\
  (∀n l,lo=some (n,l)->∃c,V (Ah n)=some c/\Ad<=nb+F4 c l/\l=(puts.drop nb).take l.length)/\(lo=none->Ad<=nb)
section
variable {bd:Int×Int} {P P':PD} {V V':View} {ix:Ix} {sg cl:List (Int×List Pu)} {lo:Option (Int×List Pu)} {puts:List Pu} {Ad:Nat} {o:Int} {nm:Bs}
def CX.b7(h:CX bd V ix sg cl lo puts Ad o):Holds bd V puts Ad o:=by
 obtain⟨nb,d⟩:=h;exact⟨ix,sg,cl,lo,nb,d⟩
def CX.bp(h:CX bd V ix sg cl lo puts Ad o):CW bd V ix sg cl lo:=h.choose_spec.1
def K6(ix:Ix)(sg:List (Int×List Pu))(nm:Bs):Prop:=nm=AK\/(∃x∈sg,nm=AJ x.1)\/∃n,isNum n=true/\ix.B9<=n/\nm=Ah n
def CX.fm(h:CX bd V ix sg cl lo puts Ad o)(O:¬K6 ix sg nm)(hV:∀m,V' m=if m=nm then none else V m):CX bd V' ix sg cl lo puts Ad o:=by
 obtain⟨nb,W,Y,hs,g1,g2⟩:=h;have z:∀m,m≠nm->V' m=V m:=λm L=>by rw[hV,Ae L]
 have I:∀m,V' m≠none->m≠nm:=λm L e=>L (by rw[hV,Ai e]);refine⟨nb,W.bF (λm L=>?_) (λm L=>?_) (λm d X=>?_),Y,hs,λn l e=>?_,g2⟩
 ·have E:m≠nm:=λe=>O (e ▸ L);rw[z m E];cases hv:V m with
  | none=>exact .inl ⟨rfl,rfl⟩
  | some d=>exact .inr ⟨d,d,rfl,rfl,rfl,.inl rfl⟩
 ·have E:=I m L;rw[z m E]at L;exact W.El m L
 ·have E:=I m (by rw[X];simp);rw[z m E]at X;exact W.E3 m d X
 ·obtain⟨d,d1,d2,d3⟩:=g1 n l e;have hq:=(W.Ac n l e).1;exact⟨d,by rw[z _ λe2=>O (.inr (.inr ⟨n,hq.1,hq.2,e2.symm⟩))];exact d1,d2,d3⟩
def R8(h:GZ P)(nm:ByteArray):(P.az nm).2.F=P.F/\(P.az nm).2.D.AF=P.D.AF/\
 (((P.az nm).2.D.A5=P.D.A5/\(P.az nm).2.D.Aq=P.D.Aq/\(P.az nm).1≠0)\/((P.az nm).2.D.A5=(P.D.A5.filter λe=>decide (e.1≠nm))/\(P.az nm).2.D.Aq=P.D.Aq++[P.D.A5.filter λe=>decide (e.1≠nm)])):=by
 unfold PD.az Ds;by_cases z:B6 P.D.A5 nm<0
 ·rw[Ai z];exact⟨rfl,rfl,.inl ⟨rfl,rfl,by simp⟩⟩
 ·rw[Ae z];dsimp only
  rw[Tn _ _ h.Cd z];by_cases d:(bg P.D.n).1=true
  ·rw[Ai d];exact⟨rfl,rfl,.inr ⟨rfl,rfl⟩⟩
  ·rw[Ae d];exact⟨rfl,rfl,.inl ⟨rfl,rfl,λh=>d (GW h)⟩⟩
def Q1(F:Nat->FC)(s:List AN)(nm m:Bs):vw F (s.filter λe=>decide (e.1≠Ab nm)) m=if m=nm then none else vw F s m:=by
 unfold vw;rw[KC s (λx=>decide (x≠Ab nm))];by_cases d:m=nm
 ·subst d;simp
 ·have:Ab m≠Ab nm:=λe=>d (G5.1 e);simp[this,d]
def DI.ee(h:DI bd P puts Ad o)(X:CX bd P.fl ix sg cl lo puts Ad o)(O:¬K6 ix sg nm):DI bd (P.az (Ab nm)).2 puts Ad o/\CX bd (P.az (Ab nm)).2.fl ix sg cl lo puts Ad o:=by
 obtain⟨I,W,Y⟩:=R8 h.bl (Ab nm);rcases Y with⟨d1,d2,_⟩|⟨d1,d2⟩
 ·have es:Bz (P.az (Ab nm)).2=Bz P:=by unfold Bz;rw[W,d2]
  have L:(P.az (Ab nm)).2.fl=P.fl:=by unfold PD.fl;rw[d1,I]
  exact⟨⟨λs d=>by rw[es]at d;rw[I];exact h.DH s d,by rw[es];exact h.Ap,by rw[es];exact h.Cd,by rw[es,d1];exact h.Cs⟩,by rw[L];exact X⟩
 ·have es:Bz (P.az (Ab nm)).2=Bz P++[P.D.A5.filter λe=>decide (e.1≠Ab nm)]:=by unfold Bz;rw[W,d2];rfl
  have z:∀s,s∈Bz (P.az (Ab nm)).2->s∈Bz P\/s=P.D.A5.filter λe=>decide (e.1≠Ab nm):=λs d=>by
   rw[es]at d;rcases AY.1 d with d|d
   ·exact .inl d
   ·exact .inr (by simpa using d)
  have E:=X.fm O (Q1 P.F P.D.A5 nm);refine⟨⟨λs d=>?_,λs d=>?_,λs d=>?_,by rw[es,d1];simp⟩,?_⟩
  ·rw[I];rcases z s d with d|rfl
   ·exact h.DH s d
   ·exact E.b7
  ·rcases z s d with d|rfl
   ·exact h.Ap s d
   ·exact(h.Ap _ h.Cs).sublist (HG.map _)
  ·rcases z s d with d|rfl
   ·exact h.Cd s d
   ·exact(h.Cd _ h.Cs).sublist (HG.map _)
  ·have L:(P.az (Ab nm)).2.fl=vw P.F (P.D.A5.filter λe=>decide (e.1≠Ab nm)):=by
    funext m;unfold PD.fl vw;rw[d1,I]
   rw[L];exact E
def DI.aL:∀(l:List Bs) {P:PD},DI bd P puts Ad o->CX bd P.fl ix sg cl lo puts Ad o->(∀m∈l,¬K6 ix sg m)->DI bd (PD.aL l P).2 puts Ad o/\CX bd (PD.aL l P).2.fl ix sg cl lo puts Ad o
 | [],P,h,hT,_=>⟨h,hT⟩
 | x::r,P,h,hT,hm=>by
  obtain⟨E,z⟩:=h.ee hT (hm x (BQ ..));unfold PD.aL;split
  ·exact⟨E,z⟩
  ·exact DI.aL r E z λm d=>hm m (BW _ d)
def DI.ax{A:Ar}(h:DI bd P puts Ad o)(z:CX bd P.fl A.ix sg cl lo puts Ad o)(L:A.j.Av=cl.map (·.1)++(lo.map (·.1)).toList)(d:sg.map (·.1)=A.ix.segs):DI bd (A.ax P).2 puts Ad o/\CX bd (A.ax P).2.fl A.ix sg cl lo puts Ad o:=by
 refine DI.aL _ h z λm E Y=>?_;obtain⟨X,W⟩:=IQ.1 E;refine W ?_;unfold Ar.Az;rcases Y with rfl|⟨x,hx,rfl⟩|⟨n,hn,I,rfl⟩
 ·simp
 ·refine Hh _ (Ed ?_);rw[<-d];exact Ed hx
 ·refine FJ _ (BW _ (Ed ?_));rw[L];refine z.bp.CH n hn I λO=>X ?_;unfold PD.bs;rw[O];rfl
def Ev(bd:Int×Int)(P:PD)(puts:List Pu)(Ad:Nat)(o:Int)(n:Int)(f ahead:Nat):Prop:=
 lookup P.D.A5 (Ab (Ah n))=some f/\∀s∈Bz P,(∀e∈s,e.2≠f)\/(lookup s (Ab (Ah n))=some f/\F8 bd (vw P.F s) puts Ad o n ahead)
def PY{F:Nat->FC}{s:List AN}{f:Nat}{c:FC}(z:(s.map (·.2)).Nodup)(h:lookup s (Ab nm)=some f)(m:Bs):vw (upd F f c) s m=if m=nm then some c else vw F s m:=by
 unfold vw;by_cases d:m=nm
 ·subst d;rw[h];simp[upd]
 ·rw[Ae d];cases hk:lookup s (Ab m) with
  | none=>rfl
  | some g=>
   have:g≠f:=λe=>d (by
    have:=JF z (E9 hk) (E9 h) e
    exact G5.1 (Pf this).1)
   simp[upd,this]
def Ev.aq{n:Int}{f ahead:Nat}{l0:List Pu}{c0:FC}(h:DI bd P puts Ad o)(hO:Ev bd P puts Ad o n f ahead)(aD:P.F f=c0)(O:c0.1=E6 (Ah n) ahead l0)(p:Pu)(hp:Bq p)(j:Nat)(hd:P'.D.A5=P.D.A5)(d:P'.D.AF=P.D.AF)(aE:P'.D.Aq=P.D.Aq)(hF:P'.F=upd P.F f (c0.1++(AS (Fl (Ah n) ahead l0) (Be p.1 p.2.1 p.2.2)).take j,c0.2)):
 DI bd P' (puts++[p]) Ad o/\(21<=j->Ev bd P' (puts++[p]) Ad o n f ahead)/\(j<21->DI bd P' puts Ad o):=by
 have es:Bz P'=Bz P:=by unfold Bz;rw[d,aE]
 have inj:∀ {l l':List Pu},E6 (Ah n) ahead l=E6 (Ah n) ahead l'->(∀p∈l,Bq p)->(∀p∈l',Bq p)->l=l':=λ{l l'} e X W=>by
  have Y:l.length=l'.length:=by have:=Eu List.length e;rw[J0,J0]at this;omega
  have hx:E5 (AW (AI (Ah n)) (AO ahead)) l=E5 (AW (AI (Ah n)) (AO ahead)) l':=by unfold E6 at e;exact UR e
  have r1:=LO l (AW (AI (Ah n)) (AO ahead)) (l.length+1) [] X (by omega) (by simp);have r2:=LO l' (AW (AI (Ah n)) (AO ahead)) (l.length+1) [] W (by omega) (by simp);rw[hx]at r1;rw[r1]at r2;simpa using r2
 have each:∀s∈Bz P,((∀e∈s,e.2≠f)/\vw P'.F s=vw P.F s)\/(lookup s (Ab (Ah n))=some f/\(21<=j->F8 bd (vw P'.F s) (puts++[p]) Ad o n ahead)/\(j<21->Holds bd (vw P'.F s) puts Ad o)):=λs d=>by
  rcases hO.2 s d with z|⟨L,aA⟩
  ·exact .inl ⟨z,Ke λe he=>by rw[hF];simp[upd,z e he]⟩
  ·refine .inr ⟨L,?_⟩;(have I:vw P.F s (Ah n)=some c0:=by unfold vw;rw[L];simp[aD]);refine aA.aq p hp j (s:=Fl (Ah n) ahead l0) (λl c hc aB=>?_) (λm hm=>?_) (λc hc=>?_)
   ·rw[I]at hc;cases hc;obtain⟨ix,sg,cl,l1,nb,c1,hL,_,_,g1,g2,g3,_,_⟩:=aA;rw[I]at g1;cases g1;have Y:l.length=l0.length:=by
     have:=Eu List.length (aB.symm.trans O);rw[J0,J0]at this;omega
    have key:∀(a b:List Pu) (s:Nat),E5 s a=E5 s b->Ht s a=Ht s b:=by
     intro a
     induction a with
     | nil=>
      intro b s e;cases b with
      | nil=>rfl
      | cons y r=>
       have:=Eu List.length e;rw[IZ,IZ]at this;simp at this
     | cons x a ih=>
      intro b s e;cases b with
      | nil=>
       have:=Eu List.length e;rw[IZ,IZ]at this;simp at this
      | cons y r=>
       simp only[E5]at e;have E:=
        List.append_inj e (by rw[EX,EX,Fj,Fj])
       have hb:=(List.append_inj E.1 (by rw[Fj,Fj])).1;simp only[Ht];rw[hb]at E ⊢;exact ih r _ E.2
    have e1:=aB.symm.trans O;unfold E6 at e1;unfold Fl;exact(key l l0 _ (UR e1)).symm
   ·rw[hF,PY (h.Ap s d) L,Ae hm]
   ·rw[I]at hc;cases hc;rw[hF,PY (h.Ap s d) L,Ai rfl]
 refine⟨⟨λs d=>?_,by rw[es];exact h.Ap,by rw[es];exact h.Cd,by rw[es,hd];exact h.Cs⟩,λhj=>⟨by rw[hd];exact hO.1,λs d=>?_⟩,λhj=>⟨λs d=>?_,by rw[es];exact h.Ap,by rw[es];exact h.Cd,by rw[es,hd];exact h.Cs⟩⟩
 ·rw[es]at d;rcases each s d with⟨_,I⟩|⟨_,X,W⟩
  ·rw[I];exact(h.DH s d).b6 [p]
  ·by_cases hj:21<=j
   ·exact(X hj).b7
   ·exact(W (by omega)).b6 [p]
 ·rw[es]at d;rcases each s d with⟨z,_⟩|⟨L,X,_⟩
  ·exact .inl z
  ·exact .inr ⟨L,X hj⟩
 ·rw[es]at d;rcases each s d with⟨_,I⟩|⟨_,_,W⟩
  ·rw[I];exact h.DH s d
  ·exact W hj
end
section
variable {bd:Int×Int} {P P':PD} {V V':View} {ix:Ix} {sg cl:List (Int×List Pu)} {lo:Option (Int×List Pu)} {puts:List Pu} {Ad:Nat} {o:Int} {nm:Bs}
def DI.ff(h:DI bd P puts Ad o)(O:Extra P nm P')(L:lookup P.D.A5 (Ab nm)=none->Holds bd (vw P'.F (P.D.A5++[(Ab nm,P.D.AV)])) puts Ad o):DI bd P' puts Ad o:=by
 have old:∀s∈Bz P,vw P'.F s=vw P.F s:=λs d=>Ke λe E=>O.Et _ (Ip d E);rcases O.dirs with⟨d1,d2⟩|⟨d0,d1,d2⟩
 ·have es:Bz P'=Bz P:=by unfold Bz;rw[O.AF,d2]
  exact⟨λs d=>by rw[es]at d;rw[old s d];exact h.DH s d,by rw[es];exact h.Ap,by rw[es];exact h.Cd,by rw[es,d1];exact h.Cs⟩
 ·have es:Bz P'=Bz P++[P.D.A5++[(Ab nm,P.D.AV)]]:=by unfold Bz;rw[O.AF,d2];rfl
  have z:∀s,s∈Bz P'->s∈Bz P\/s=P.D.A5++[(Ab nm,P.D.AV)]:=λs d=>by
   rw[es]at d;rcases AY.1 d with d|d
   ·exact .inl d
   ·exact .inr (by simpa using d)
  refine⟨λs d=>?_,λs d=>?_,λs d=>?_,by rw[es,d1];simp⟩
  ·rcases z s d with d|rfl
   ·rw[old s d];exact h.DH s d
   ·exact L d0
  ·rcases z s d with d|rfl
   ·exact h.Ap s d
   ·rw[EV,Hf];refine⟨h.Ap _ h.Cs,by simp,λa W b I=>?_⟩;simp at I;subst I;obtain⟨e,E,rfl⟩:=CD.1 W;exact Ip h.Cs E
  ·rcases z s d with d|rfl
   ·exact h.Cd s d
   ·rw[EV,Hf];refine⟨h.Cd _ h.Cs,by simp,λa W b I=>?_⟩;simp at I;subst I;obtain⟨e,E,rfl⟩:=CD.1 W;exact(IW.1 d0) e E
def CW.dm(E:CW bd V ix sg cl none)(hs:C6 o (AG sg++AG cl) puts)(hsafe:Ad<=puts.length){n:Int}(hn:isNum n=true)(aA:n<=bd.1)(hf:ix.B9<=n)(O:∀x∈cl,x.1<n)(j:Nat)(hV:∀m,V' m=if m=Ah n then some ((AS (AI (Ah n)) (AO ((AG cl).length:Int))).take j,0) else V m):
 CX bd V' ix sg cl (some (n,[])) puts Ad o/\(12<=j->F8 bd V' puts Ad o n (AG cl).length):=by
 have hpl:(AS (AI (Ah n)) (AO ((AG cl).length:Int))).length=12:=by rw[EX,CL]
 have h:∀m,m≠Ah n->V' m=V m:=λm hm=>by rw[hV,Ae hm]
 have z:V' (Ah n)=some ((AS (AI (Ah n)) (AO ((AG cl).length:Int))).take j,0):=by rw[hV,Ai rfl]
 have W:∀x∈cl,Ah x.1≠Ah n:=λx I e=>by
  have:=G4 (E.CO x I).1.1 hn e;have:=O x I;omega
 have L:12<=j->(AS (AI (Ah n)) (AO ((AG cl).length:Int))).take j=E6 (Ah n) ((AG cl).length:Int) []:=λhj=>by
  rw[Ec (by omega)];simp[E6,E5]
 have X:HX ((AS (AI (Ah n)) (AO ((AG cl).length:Int))).take j) (Ah n) (AG cl).length []:=by
  by_cases hj:12<=j
  ·exact .inl ⟨[],by rw[L hj];simp,by simp⟩
  ·exact .inr ⟨rfl,by rw[BI];omega⟩
 have Y:CW bd V' ix sg cl (some (n,[])):=by
  refine⟨E.Ea,by rw[h _ (Hs n).symm];exact E.Io,E.segs,λx I=>by rw[h _ (G8 n x.1).symm];exact E.Cy x I,λx I=>by rw[h _ (W x I)];exact E.CO x I,
   E.Av.br λx I=>by rw[h _ (W x I)],λn' l e=>by cases e;exact⟨⟨hn,hf⟩,λp hp=>(by cases hp),_,z,X⟩,?_,λk h1 h2 h3=>?_,λm hm=>?_,λm d hd=>?_⟩
  ·have:=E.G3;simp only[Option.map_none,Option.toList_none,EF]at this;refine Ew.2 ⟨this,by simp,λa ha b hb=>?_⟩;simp at hb;subst hb;obtain⟨x,I,rfl⟩:=CD.1 ha;exact O x I
  ·by_cases e:Ah k=Ah n
   ·have:=G4 h1 hn e;subst this;simp
   ·rw[h _ e]at h3;have:=E.CH k h1 h2 h3;simp at this;simp[this]
  ·by_cases e:m=Ah n
   ·subst e;exact Zk hn aA
   ·rw[h _ e]at hm;exact E.El m hm
  ·by_cases e:m=Ah n
   ·subst e;rw[z]at hd;cases hd;dsimp only;omega
   ·rw[h _ e]at hd;exact E.E3 m d hd
 refine⟨⟨puts.length,Y,Ao _,by rw[Cc];exact hs,λn' l e=>by cases e;exact⟨_,z,by omega,by simp⟩,λe=>by cases e⟩,λhj=>?_⟩;exact⟨ix,sg,cl,[],puts.length,_,Y,Ao _,by rw[Cc];exact hs,z,L hj,rfl,by omega,by simp⟩
def U5{nm:ByteArray}{f:Nat}(l:Bs)(h:lookup P.D.A5 nm=some f)(d:(P.aq nm l).1=0):(P.aq nm l).2.F=upd P.F f ((P.F f).1++l,(P.F f).2):=by
 have W:(Ab l).data.toList=l:=by simp[Ab]
 unfold PD.aq Bx at d ⊢;rw[h]at d ⊢;dsimp only at d ⊢;have z:∀D n0 e,(BK D P.F f (Ab l) n0 e).1=0->e=0/\(BK D P.F f (Ab l) n0 e).2.2=upd P.F f ((P.F f).1++l.take n0.toNat,(P.F f).2):=λD n0 e E=>by
  unfold BK at E ⊢;split at E
  ·dsimp only at E;split at E
   ·cases E
   ·rename_i I O;exact absurd E O
  ·rename_i I;rw[Ae I,W];exact⟨E,rfl⟩
 split at d
 ·rename_i L;rw[Ai L];obtain⟨_,O⟩:=z _ _ _ d;rw[O];have:((Ab l).size:Int).toNat=l.length:=by rw[Kw];simp
  rw[this,Cc]
 ·rename_i L;split at d
  ·obtain⟨I,_⟩:=z _ _ _ d;exact absurd (GW I) L
  ·exact absurd (GW d) L
def MB(P:PD)(J:Jn):Extra P (Ah (J.Ac+1)) (J.av P).2.2/\(∃j,(J.av P).2.2.F P.D.AV=((AS (AI (Ah (J.Ac+1))) (AO J.puts)).take j,0))/\
 ((J.av P).1=0->lookup (J.av P).2.2.D.A5 (Ab (Ah (J.Ac+1)))=some P.D.AV/\(J.av P).2.2.F P.D.AV=(AS (AI (Ah (J.Ac+1))) (AO J.puts),0)):=by
 obtain⟨nm,W⟩:∃nm,Ah (J.Ac+1)=nm:=⟨_,rfl⟩;obtain⟨X,e2⟩:=KM P nm;have E:(P.ao (Ab nm)).2.F P.D.AV=([],0):=by
  unfold PD.ao;simp[upd]
 unfold Jn.av;rw[W];dsimp only
 by_cases I:(P.ao (Ab nm)).1=0
 ·rw[Ae (nn I)];have L:=e2 I;have ea:((P.ao (Ab nm)).2.af (Ab nm) (AI nm) (AO J.puts)).2.2=((P.ao (Ab nm)).2.aq (Ab nm) (AS (AI nm) (AO J.puts))).2:=rfl;have O:((P.ao (Ab nm)).2.af (Ab nm) (AI nm) (AO J.puts)).2.1=((P.ao (Ab nm)).2.aq (Ab nm) (AS (AI nm) (AO J.puts))).1:=rfl;have Y:=X.aq L (AS (AI nm) (AO J.puts));obtain⟨a1,a2,a3,d⟩:=Iu (AS (AI nm) (AO J.puts)) L;have hj:∃j,((P.ao (Ab nm)).2.aq (Ab nm) (AS (AI nm) (AO J.puts))).2.F P.D.AV=((AS (AI nm) (AO J.puts)).take j,0):=by
   rcases d with d|⟨j,d⟩
   ·exact⟨0,by rw[d,E];simp⟩
   ·exact⟨j,by rw[d];simp[upd,E]⟩
  by_cases z:((P.ao (Ab nm)).2.af (Ab nm) (AI nm) (AO J.puts)).2.1=0
  ·rw[Ae (nn z),ea];refine⟨Y,hj,λ_=>⟨by rw[a1];exact L,?_⟩⟩;rw[U5 _ L (by rw[<-O];exact z)];simp[upd,E]
  ·rw[Ai z,ea];exact⟨Y,hj,λh=>absurd h z⟩
 ·rw[Ai I];exact⟨X,⟨0,by rw[E];simp⟩,λh=>absurd h I⟩
def DI.av(h:DI bd P puts Ad o){J:Jn}(hL:CW bd P.fl ix sg cl none)(hs:C6 o (AG sg++AG cl) puts)(z:Ad<=puts.length)(hn:isNum (J.Ac+1)=true)(L:J.Ac+1<=bd.1)(hf:ix.B9<=J.Ac+1)(I:∀x∈cl,x.1<J.Ac+1)(hp:J.puts=((AG cl).length:Int)):
 DI bd (J.av P).2.2 puts Ad o/\((J.av P).1=0->Ev bd (J.av P).2.2 puts Ad o (J.Ac+1) P.D.AV (AG cl).length):=by
 obtain⟨O,⟨j,b2⟩,b3⟩:=MB P J;rw[hp]at b2 b3;have E:=Ke λe Y=>O.Et _ (Ip h.Cs Y);have X:=h.ff O λh0=>by
  refine((hL.dm hs z hn L hf I j (V':=vw (J.av P).2.2.F (P.D.A5++[(Ab (Ah (J.Ac+1)),P.D.AV)])) λm=>?_).1).b7;rw[Kd h0,b2,E];rfl
 refine⟨X,λW=>?_⟩;obtain⟨c1,c2⟩:=b3 W;refine⟨c1,λs d=>?_⟩;rcases O.dirs with⟨d1,d2⟩|⟨d0,d1,d2⟩
 ·
  rw[d1]at c1;exact absurd (E9 c1) (λhm=>Ip h.Cs hm rfl)
 ·have es:Bz (J.av P).2.2=Bz P++[P.D.A5++[(Ab (Ah (J.Ac+1)),P.D.AV)]]:=by unfold Bz;rw[O.AF,d2];rfl
  rw[es]at d;rcases AY.1 d with d | d
  ·exact .inl λe Y=>Ip d Y
  ·simp at d;subst d;refine .inr ⟨by rw[<-d1];exact c1,?_⟩;refine(hL.dm hs z hn L hf I 12 (V':=vw (J.av P).2.2.F (P.D.A5++[(Ab (Ah (J.Ac+1)),P.D.AV)])) λm=>?_).2 (Ao _);rw[Kd d0,c2,E,Ec (by rw[EX,CL];omega)];rfl
end
section
variable {bd:Int×Int} {P P':PD} {V V':View} {A:Ar} {ix:Ix} {sg cl:List (Int×List Pu)} {lo:Option (Int×List Pu)} {ol:Option (List Pu)} {puts:List Pu} {Ad:Nat} {o:Int} {nm:Bs}
def P8{c:FC}(h:P.fl nm=some c):P.bs nm=some c.1:=by unfold PD.bs;rw[h];rfl
def Iq{b:Bs}(h:P.bs nm=some b):∃c,P.fl nm=some c/\c.1=b:=by
 obtain⟨k,d⟩:=KT h;exact⟨(b,k),d,rfl⟩
def Lay.bp(h:Lay P A sg cl ol)(_hl:(AG cl).length<=1099511627776)(hr:∀nm c,P.fl nm=some c->0<=c.2/\c.2<=c.1.length)(O:∀nm c,(nm=AK\/(∃x∈sg,nm=AJ x.1)\/∃x∈cl,nm=Ah x.1)->P.fl nm=some c->BZ c)(W:HH bd A.ix sg)(Y:∀nm,P.fl nm≠none->Fq bd nm):CW bd P.fl A.ix sg cl (ol.map λl=>(A.j.Ac,l)):=by
 have d:cl.map (·.1)++(Option.map (·.1) (ol.map λl=>(A.j.Ac,l))).toList=A.j.Av:=by
  rw[h.bS];cases ol<;>simp[shut]
 refine⟨W,?_,h.segs,λx z=>?_,λx z=>?_,FI.at.2 h.Av,λn l e=>?_,by rw[d];exact h.H9,λn E I X=>?_,Y,hr⟩
 ·rcases h.ix with⟨E,I⟩|E
  ·exact .inl ⟨Is.1 E,I⟩
  ·obtain⟨c,c1,c2⟩:=Iq E;exact .inr ⟨c,c1,O _ _ (.inl rfl) c1,c2⟩
 ·obtain⟨E,I⟩:=h.Cy x z;obtain⟨c,c1,c2⟩:=Iq I;exact⟨E,c,c1,O _ _ (.inr (.inl ⟨x,z,rfl⟩)) c1,c2⟩
 ·have L:=h.Av.E4 z;obtain⟨b,L⟩:=Pg.1 L;obtain⟨c,c1,_⟩:=Iq L;exact⟨⟨(h.CO x z).1.1,h.ER.1 x z⟩,(h.CO x z).2,c,c1,O _ _ (.inr (.inr ⟨x,z,rfl⟩)) c1⟩
 ·cases ol with
  | none=>cases e
  | some l'=>
   cases e;obtain⟨_,_,X,h4,h5⟩:=h.AE;obtain⟨c,c1,c2⟩:=Iq X;exact⟨⟨h5,h.ER.2 (by simp)⟩,h4,c,c1,.inl ⟨[],by rw[c2,h.Gx];simp,by simp⟩⟩
 ·rw[d];exact h.Hr n E I λL=>X (Is.1 L)
def CX.bL(h:CX bd V ix sg cl lo puts Ad o)(h0:V nm=none)(z:nm=Bv\/∃k,(isNum k=true/\k<=bd.2)/\nm=AJ k)(c:FC)(hc:0<=c.2/\c.2<=c.1.length)(hV:∀m,V' m=if m=nm then some c else V m):CX bd V' ix sg cl lo puts Ad o:=by
 obtain⟨nb,W,X,hs,g1,g2⟩:=h;have I:∀m,K6 ix sg m->m≠nm:=by
  rintro m (rfl|⟨x,hx,rfl⟩|⟨n,hn,_,rfl⟩) e
  ·rcases z with z|⟨k,_,z⟩
   ·exact J3 (e.trans z)
   ·exact Jw k (z.symm.trans e.symm)
  ·obtain⟨_,d,L,_⟩:=W.Cy x hx;rw[e,h0]at L;cases L
  ·rcases z with z|⟨k,_,z⟩
   ·exact KE n (e.trans z)
   ·exact G8 n k (e.trans z)
 have E:∀m,m≠nm->V' m=V m:=λm O=>by rw[hV,Ae O]
 refine⟨nb,W.bF (λm O=>?_) (λm O=>?_) (λm d L=>?_),X,hs,λn l e=>?_,g2⟩
 ·rw[E m (I m O)];cases hv:V m with
  | none=>exact .inl ⟨rfl,rfl⟩
  | some d=>exact .inr ⟨d,d,rfl,rfl,rfl,.inl rfl⟩
 ·by_cases e:m=nm
  ·subst e;rcases z with rfl|⟨k,Y,rfl⟩
   ·exact S2 bd
   ·exact S1 Y.1 Y.2
  ·rw[E m e]at O;exact W.El m O
 ·by_cases e:m=nm
  ·rw[hV,Ai e]at L;cases L;exact hc
  ·rw[E m e]at L;exact W.E3 m d L
 ·obtain⟨d,d1,d2,d3⟩:=g1 n l e;have hq:=(W.Ac n l e).1;exact⟨d,by rw[E _ (I _ (.inr (.inr ⟨n,hq.1,hq.2,rfl⟩)))];exact d1,d2,d3⟩
def Extra.fl(h:DI bd P puts Ad o)(d:Extra P nm P'):(P'.fl=P.fl)\/(P.fl nm=none/\∀m,P'.fl m=if m=nm then some (P'.F P.D.AV) else P.fl m):=by
 have old:=Ke λe z=>d.Et _ (Ip h.Cs z);rcases d.dirs with⟨d1,_⟩|⟨d0,d1,_⟩
 ·refine .inl ?_;have:P'.fl=vw P'.F P.D.A5:=by funext m;unfold PD.fl vw;rw[d1]
  rw[this,old];rfl
 ·refine .inr ⟨by unfold PD.fl;rw[d0];rfl,λm=>?_⟩;have:P'.fl m=vw P'.F (P.D.A5++[(Ab nm,P.D.AV)]) m:=by unfold PD.fl vw;rw[d1]
  rw[this,Kd d0,old];rfl
def CX.ed(h:DI bd P puts Ad o)(E:CX bd P.fl ix sg cl lo puts Ad o)(z:Extra P nm P')(d:nm=Bv\/∃k,(isNum k=true/\k<=bd.2)/\nm=AJ k):CX bd P'.fl ix sg cl lo puts Ad o:=by
 rcases Extra.fl h z with e|⟨I,e⟩
 ·rw[e];exact E
 ·exact E.bL I d _ z.E3 e
def CX.an:∀(fresh:List (List Pu)) (last:Int) (kept:List Int) {P:PD},DI bd P puts Ad o->CX bd P.fl ix sg cl lo puts Ad o->0<=last->last+fresh.length<=4611686018427387904->last+fresh.length<=bd.2->CX bd (PD.an fresh last kept P).2.2.2.fl ix sg cl lo puts Ad o
 | [],last,kept,P,_,hT,_,_,_=>hT
 | l::r,last,kept,P,h,hT,h0,h1,h2=>by
  simp only[Cq]at h1 h2;have z:PD.an (l::r) last kept P=if (P.aH (last+1) l).1≠0 then ((P.aH (last+1) l).1,last+1,kept,(P.aH (last+1) l).2) else PD.an r (last+1) (kept++[last+1]) (P.aH (last+1) l).2:=rfl
  have d:AJ (last+1)=Bv\/∃k,(isNum k=true/\k<=bd.2)/\AJ (last+1)=AJ k:=.inr ⟨last+1,⟨by unfold isNum;simp;omega,by omega⟩,rfl⟩;have I:=(JM P (AJ (last+1)) (AI (AJ (last+1))) (Cf l)).1;have L:DI bd (P.aH (last+1) l).2 puts Ad o:=h.aG d _ _;have E:CX bd (P.aH (last+1) l).2.fl ix sg cl lo puts Ad o:=hT.ed h I d;rw[z];split
  ·exact E
  ·exact CX.an r (last+1) _ L E (by omega) (by omega) (by omega)
def QY(h:GZ P){old nw:Bs}{f:Nat}(E:lookup P.D.A5 (Ab old)=some f):(P.aN (Ab old) (Ab nw)).2.F=P.F/\(P.aN (Ab old) (Ab nw)).2.D.AF=P.D.AF/\
 (((P.aN (Ab old) (Ab nw)).2.D.A5=P.D.A5/\(P.aN (Ab old) (Ab nw)).2.D.Aq=P.D.Aq/\(P.aN (Ab old) (Ab nw)).1≠0)\/
   ((P.aN (Ab old) (Ab nw)).2.D.A5=(P.D.A5.filter λe=>decide (e.1≠Ab old/\e.1≠Ab nw))++[(Ab nw,f)]/\(P.aN (Ab old) (Ab nw)).2.D.Aq=P.D.Aq++[(P.D.A5.filter λe=>decide (e.1≠Ab old/\e.1≠Ab nw))++[(Ab nw,f)]])):=by
 have d:¬B6 P.D.A5 (Ab old)<0:=λd=>by rw[J5,E]at d;cases d
 unfold PD.aN D3;rw[E];dsimp only
 by_cases I:Ab nw=ByteArray.empty
 ·rw[Ai I];exact⟨rfl,rfl,.inl ⟨rfl,rfl,by simp⟩⟩
 ·rw[Ae I];dsimp only
  rw[R7 _ _ _ h.Cd d];by_cases z:(bg P.D.n).1=true
  ·rw[Ai z];exact⟨rfl,rfl,.inr ⟨rfl,rfl⟩⟩
  ·rw[Ae z];exact⟨rfl,rfl,.inl ⟨rfl,rfl,λh=>z (GW h)⟩⟩
def PZ{F:Nat->FC}{s:List AN}{old nw:Bs}{f:Nat}(hd:old≠nw)(m:Bs):vw F ((s.filter λe=>decide (e.1≠Ab old/\e.1≠Ab nw))++[(Ab nw,f)]) m=if m=nw then some (F f) else if m=old then none else vw F s m:=by
 have E:lookup (s.filter λe=>decide (e.1≠Ab old/\e.1≠Ab nw)) (Ab nw)=none:=by
  rw[KC s (λx=>decide (x≠Ab old/\x≠Ab nw))];simp
 rw[Kd E];by_cases d:m=nw
 ·rw[Ai d,Ai d]
 ·rw[Ae d,Ae d];unfold vw;rw[KC s (λx=>decide (x≠Ab old/\x≠Ab nw))];have z:Ab m≠Ab nw:=λe=>d (G5.1 e);by_cases h:m=old
  ·subst h;simp
  ·have:Ab m≠Ab old:=λe=>h (G5.1 e);simp[this,z,h]
def DI.e1(h:DI bd P puts Ad o){f:Nat}(hl:lookup P.D.A5 (Ab Bv)=some f)(L:Holds bd (λm=>if m=AK then some (P.F f) else if m=Bv then none else P.fl m) puts Ad o):DI bd (P.aN (Ab Bv) (Ab AK)).2 puts Ad o:=by
 obtain⟨a1,a2,a3⟩:=QY (nw:=AK) h.bl hl;have O:=E9 hl;rcases a3 with⟨d1,d2,_⟩|⟨d1,d2⟩
 ·have es:Bz (P.aN (Ab Bv) (Ab AK)).2=Bz P:=by unfold Bz;rw[a2,d2]
  exact⟨λs d=>by rw[es]at d;rw[a1];exact h.DH s d,by rw[es];exact h.Ap,by rw[es];exact h.Cd,by rw[es,d1];exact h.Cs⟩
 ·obtain⟨s1,E⟩:∃s1,(P.D.A5.filter λe=>decide (e.1≠Ab Bv/\e.1≠Ab AK))++[(Ab AK,f)]=s1:=⟨_,rfl⟩;rw[E]at d1 d2;have es:Bz (P.aN (Ab Bv) (Ab AK)).2=Bz P++[s1]:=by unfold Bz;rw[a2,d2];rfl
  have z:∀s,s∈Bz (P.aN (Ab Bv) (Ab AK)).2->s∈Bz P\/s=s1:=λs d=>by
   rw[es]at d;rcases AY.1 d with d|d
   ·exact .inl d
   ·exact .inr (by simpa using d)
  have hv:vw P.F s1=λm=>if m=AK then some (P.F f) else if m=Bv then none else P.fl m:=by
   funext m;rw[<-E,PZ J3.symm];rfl
  refine⟨λs d=>?_,λs d=>?_,λs d=>?_,by rw[es,d1];simp⟩
  ·rw[a1];rcases z s d with d|rfl
   ·exact h.DH s d
   ·rw[hv];exact L
  ·rcases z s d with d|rfl
   ·exact h.Ap s d
   ·rw[<-E,EV,Hf];refine⟨(h.Ap _ h.Cs).sublist (HG.map _),by simp,λa Y b I=>?_⟩;simp at I;subst I;obtain⟨e,he,rfl⟩:=CD.1 Y;obtain⟨X,W⟩:=Hg.1 he;intro aA;have:=JF (h.Ap _ h.Cs) X O aA;subst this;simp at W
  ·rcases z s d with d|rfl
   ·exact h.Cd s d
   ·rw[<-E,EV,Hf];refine⟨(h.Cd _ h.Cs).sublist (HG.map _),by simp,λa Y b I=>?_⟩;simp at I;subst I;obtain⟨e,he,rfl⟩:=CD.1 Y;have:=(Hg.1 he).2;simp at this;exact this.2
def CW.fA{V:View}{h:Int}{L:List (Int×List Pu)}{c:FC}(aA:HH bd ⟨h,L.map (·.1)⟩ L)(hc:BZ c/\c.1=AS (AI AK) (Cj h (L.map (·.1))))(Y:∀x∈L,((∀p∈x.2,Bq p)/\Cr Ck x.2=true)/\∃c,V (AJ x.1)=some c/\BZ c/\c.1=AS (AI (AJ x.1)) (Cf x.2))(O:∀n,isNum n=true->h<=n->V (Ah n)=none)(E:∀nm,V nm≠none->Fq bd nm)(W:∀nm c,V nm=some c->0<=c.2/\c.2<=c.1.length)(hV:∀m,V' m=if m=AK then some c else if m=Bv then none else V m):CW bd V' ⟨h,L.map (·.1)⟩ L [] none:=by
 have z:∀m,m≠AK->m≠Bv->V' m=V m:=λm h1 h2=>by rw[hV,Ae h1,Ae h2]
 refine⟨aA,.inr ⟨c,by rw[hV,Ai rfl],hc.1,hc.2⟩,rfl,λx hx=>?_,λx hx=>(by cases hx),trivial,λn l e=>(by cases e),List.Pairwise.nil,λn h1 h2 h3=>?_,λnm hn=>?_,λnm d I=>?_⟩
 ·rw[z _ (Jw _) (LF _)];exact Y x hx
 ·rw[z _ (Hs _) (KE _),O n h1 h2]at h3;exact absurd rfl h3
 ·by_cases e:nm=AK
  ·subst e;exact Zl bd
  ·by_cases X:nm=Bv
   ·rw[hV,Ae e,Ai X]at hn;exact absurd rfl hn
   ·rw[z nm e X]at hn;exact E nm hn
 ·by_cases e:nm=AK
  ·rw[hV,Ai e]at I;cases I;have:=hc.1;unfold BZ at this;omega
  ·by_cases X:nm=Bv
   ·rw[hV,Ae e,Ai X]at I;cases I
   ·rw[z nm e X]at I;exact W nm d I
end
end
end Go.Proofs.YtodcnkbblippnaaGreatDoor
