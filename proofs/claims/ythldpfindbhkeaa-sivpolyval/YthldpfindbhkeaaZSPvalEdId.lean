import Derived.Tactics
namespace Go.Num
variable {n:Nat} [NeZero n]
theorem ed_close (d x1 y1 x2 y2:Fin n) (h1:d*x1*x1*y1*y1 - (y1*y1 - x1*x1 - 1)=0) (h2:d*x2*x2*y2*y2 - (y2*y2 - x2*x2 - 1)=0):(y1*y2+x1*x2)*(y1*y2+x1*x2)*((1+(d*x1*x2*y1*y2))*(1+(d*x1*x2*y1*y2)))-(x1*y2+x2*y1)*(x1*y2+x2*y1)*((1-(d*x1*x2*y1*y2))*(1-(d*x1*x2*y1*y2)))=(1-(d*x1*x2*y1*y2)*(d*x1*x2*y1*y2))*(1-(d*x1*x2*y1*y2)*(d*x1*x2*y1*y2))+d*((x1*y2+x2*y1)*(x1*y2+x2*y1)*((y1*y2+x1*x2)*(y1*y2+x1*x2))):=by
  have e:(y1*y2+x1*x2)*(y1*y2+x1*x2)*((1+(d*x1*x2*y1*y2))*(1+(d*x1*x2*y1*y2)))-(x1*y2+x2*y1)*(x1*y2+x2*y1)*((1-(d*x1*x2*y1*y2))*(1-(d*x1*x2*y1*y2))) - ((1-(d*x1*x2*y1*y2)*(d*x1*x2*y1*y2))*(1-(d*x1*x2*y1*y2)*(d*x1*x2*y1*y2))+d*((x1*y2+x2*y1)*(x1*y2+x2*y1)*((y1*y2+x1*x2)*(y1*y2+x1*x2))))=(-d*d*d*x1*x1*y1*y1*x2*x2*x2*x2*y2*y2*y2*y2+d*d*x1*x1*x2*x2*x2*x2*y2*y2*y2*y2 - d*d*y1*y1*x2*x2*x2*x2*y2*y2*y2*y2+d*d*x2*x2*x2*x2*y2*y2*y2*y2+d*x1*x1*x2*x2*x2*x2*y2*y2 - d*x1*x1*x2*x2*y2*y2*y2*y2 - d*y1*y1*x2*x2*x2*x2*y2*y2+d*y1*y1*x2*x2*y2*y2*y2*y2+2*d*x2*x2*x2*x2*y2*y2*y2*y2+2*d*x2*x2*y2*y2+2*x2*x2*x2*x2*y2*y2 - x2*x2*x2*x2 - 2*x2*x2*y2*y2*y2*y2+4*x2*x2*y2*y2 - y2*y2*y2*y2)*(d*x1*x1*y1*y1 - (y1*y1 - x1*x1 - 1))+(-d*x1*x1*x1*x1*x2*x2*y2*y2 - 2*d*x1*x1*x2*x2*y2*y2 - d*y1*y1*y1*y1*x2*x2*y2*y2+2*d*y1*y1*x2*x2*y2*y2 - d*x2*x2*y2*y2 - 2*x1*x1*x2*x2*y2*y2+x1*x1*x2*x2 - x1*x1*y2*y2+2*y1*y1*x2*x2*y2*y2 - y1*y1*x2*x2+y1*y1*y2*y2 - 2*x2*x2*y2*y2+x2*x2 - y2*y2 - 1)*(d*x2*x2*y2*y2 - (y2*y2 - x2*x2 - 1)):=by grind -lia
  rw[h1,h2] at e
  grind -lia
theorem ed_compl (d x1 y1 x2 y2 u c:Fin n) (h1:d*x1*x1*y1*y1 - (y1*y1 - x1*x1 - 1)=0) (h2:d*x2*x2*y2*y2 - (y2*y2 - x2*x2 - 1)=0) (hu:u=d*x1*x2*y1*y2) (hs:u*u=1) (hc:c*c= -1):(y1+c*u*x1)*(y1+c*u*x1)=d*(x1*y1*(y2+c*x2))*(x1*y1*(y2+c*x2)):=by
  have e1:(y1+c*u*x1)*(y1+c*u*x1)=y1*y1+2*(c*u*x1*y1)+c*c*(u*u)*(x1*x1):=by clear h1 h2 hu hs hc;grind -lia
  have e2:d*(x1*y1*(y2+c*x2))*(x1*y1*(y2+c*x2))=d*x1*x1*y1*y1*(y2*y2+c*c*(x2*x2))+2*(c*(d*x1*x2*y1*y2)*x1*y1):=by clear h1 h2 hu hs hc;grind -lia
  have e3:d*x1*x1*y1*y1*(1+d*x2*x2*y2*y2)=d*x1*x1*y1*y1+(d*x1*x2*y1*y2)*(d*x1*x2*y1*y2):=by clear h1 h2 hu hs hc;grind -lia
  have e4:y2*y2+ -1*(x2*x2)=1+d*x2*x2*y2*y2:=by clear h1 hu hs hc e1 e2 e3;grind -lia
  have e5:d*x1*x1*y1*y1=y1*y1 - x1*x1 - 1:=by clear h2 hu hs hc e1 e2 e3 e4;grind -lia
  rw[e1,e2,hc,hs,e4,e3,← hu,hs,e5]
  clear e1 e2 e3 e4 e5 h1 h2 hu hs hc
  grind -lia
end Go.Num
