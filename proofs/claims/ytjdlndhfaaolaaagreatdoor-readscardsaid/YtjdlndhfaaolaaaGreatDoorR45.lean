import Derived.Test.YtjdlndhfaaolaaaGreatDoorR41
import Derived.Test.YtjdlndhfaaolaaaGreatDoorR44
set_option maxHeartbeats 20000000
namespace Go.Proofs.YtjdlndhfaaolaaaGreatDoor
section
open Go.RowKit
open Go.Deep (BT)
theorem A3s(l:List UInt8)(w:World):Calls Tryz.prog 31 #[.string ⟨l.toArray⟩] w (Sl l w):=by
 by_cases hlong:2000<l.length
 ·refine(A3r l w hlong).mono ?_;rintro e w' ⟨rfl,hb⟩;have hc:K7 l=((1,0),[]):=if_pos hlong;exact⟨hb,.inl ⟨by rw[hc];simp,by rw[hc];rfl⟩⟩
 ·rcases Wh l (by omega) with⟨n,hn,h1,h2⟩|⟨ts,hn,h1,h2⟩
  ·refine(A3o l w (by omega) n hn h1 h2).mono ?_;rintro e w' ⟨rfl,hb⟩;have hc:K7 l=((2,n),[]):=by unfold K7;rw[if_neg hlong,hn]
   exact⟨hb,.inl ⟨by rw[hc];simp,by rw[hc];rfl⟩⟩
  ·obtain⟨r,hr,hkd,hsane⟩:=b5 h2 h1;have hcp:K7 l=(if r.2.bad≠0 then((2,r.2.bad),[]) else if nest ts 0≠0 then((1,nest ts 0),[]) else if(Dj (Bf r.1) r.1 [] [] (0,0)).1≠0 then(Dj (Bf r.1) r.1 [] [] (0,0),[]) else((0,0),Bf r.1)):=by
    unfold K7;rw[if_neg hlong,hn];simp only[];rw[hr]
   by_cases hb:r.2.bad=0
   ·rw[if_neg (by omega)]at hcp;by_cases hd:nest ts 0=0
    ·rw[if_neg (by omega)]at hcp;obtain⟨k1,k2,k3⟩:=hsane hb;refine(A3q l w (by omega) ts hn h1 h2 r hr hb hd hkd k1 k2 k3).mono ?_;rintro e w' ⟨hbel,⟨hs,rfl⟩|⟨hs,fs,pb,la,ln,lc,fa,fc,cs,hfs,hfew,rfl,hpb,hcell,hown,hat,hlo⟩⟩
     ·rw[if_pos hs]at hcp;exact⟨hbel,.inl ⟨by rw[hcp];exact hs,by rw[hcp]⟩⟩
     ·rw[if_neg (by omega),hfs]at hcp;exact⟨hbel,.inr ⟨fs,pb,la,ln,lc,fa,fc,cs,hcp,hfew,rfl,hpb,hcell,hown,hat,hlo⟩⟩
    ·rw[if_pos hd]at hcp;refine(A3p l w (by omega) ts hn h1 h2 r hr hb hd).mono ?_;rintro e w' ⟨rfl,hbel⟩;exact⟨hbel,.inl ⟨by rw[hcp];simp,by rw[hcp];rfl⟩⟩
   ·rw[if_pos hb]at hcp;refine(A3t l w (by omega) ts hn h1 h2 r hr hb).mono ?_;rintro e w' ⟨rfl,hbel⟩;exact⟨hbel,.inl ⟨by rw[hcp];simp,by rw[hcp];rfl⟩⟩
end
end Go.Proofs.YtjdlndhfaaolaaaGreatDoor
