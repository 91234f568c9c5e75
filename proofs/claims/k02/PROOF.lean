import PyProof.Rows.All
import Wide.All
import OpenK.AllK
import Wide.FinOn
import HandS.Comp
import HandS.Ends
import HandS.Text
import HandS.Words
import PyProof.ReprRoads
import HandS.Iter
import HandS.IsInst
import HandS.CallLocal
import HandS.ForMost
import PyProof.StrBlock2
import PyProof.StrLawsRepr
import HandS.Dict
import PyProof.RowDictHeap
import PyProof.EqKinds
import PyProof.NeKinds
import PyProof.NeData
import HandS.Strs
import PyProof.Rows.SortStr
import HandS.SetFor
import HandS.TupAny
import PyProof.Rows.StrMeet
import HandS.Deep
import HandS.StrMore
import HandS.TupMul
import HandS.TryOnly
import HandS.WordsExc
import HandS.ExcIs
import PyProof.ListStr
import PyProof.ListMulAny
import PyProof.Rows.ListMulArg
import HandS.TupSets
import KE.SortData
import HandS.DictComp
import HandS.DictTup
import HandS.Property
import HandS.OwnEq
import HandS.DictEq
import PyProof.InstEq
import HandS.Zip
import HandS.RaiseMore
import PyProof.StrLawsChain
import PyProof.StrLawsIn
import HandS.Defaults
import HandS.More
import HandS.Style
import PySem.Challenge.RW_boundonce_k02_catalogs_made
set_option Elab.async false
set_option linter.all false
set_option maxRecDepth 100000
set_option maxHeartbeats 4000000

/-! My own layer over the hand layer: what is wanted of an expression, a test, a statement, forward. -/
namespace My
open PySem PySem.Spec PyProof.Rows L2
section
variable {X : Cx}
structure WE (X : Cx) (e : Expr) (σ : L2.St) (H : Hp) (Q : VK) : Prop where
  go : ∀ (pins : List (Addr × Obj)) (s : Shared), Inv X pins σ H s →
  wpAny (model X.prog X.w) X.A (eval e X.env) (EP X pins σ Q) X.xe s
structure WT (X : Cx) (e : Expr) (σ : L2.St) (H : Hp) (R : Bool → Hp → Prop) : Prop where
  go : ∀ (pins : List (Addr × Obj)) (s : Shared), Inv X pins σ H s →
  wpAny (model X.prog X.w) X.A (isTrue e X.env (eval e X.env)) (TP X pins σ R) X.xe s
structure WW (X : Cx) (e : Expr) (σ : L2.St) (H : Hp) (R : Bool → Hp → Prop) : Prop where
  go : ∀ (whole : Sem Value) (pins : List (Addr × Obj)) (s : Shared), Inv X pins σ H s →
  wpAny (model X.prog X.w) X.A (isTrue e X.env whole) (TP X pins σ R) X.xe s
structure WA (X : Cx) (es : List Expr) (σ : L2.St) (H : Hp) (U : List V → Hp → Prop) : Prop where
  go : ∀ (pos : Pos) (pins : List (Addr × Obj)) (s : Shared), Inv X pins σ H s →
  wpAny (model X.prog X.w) X.A (spliced (backTo pos (starEach es X.env))) (AP X pins σ U) X.xe s
structure WS (X : Cx) (st : Stmt) (D : Ends) (σ : L2.St) (H : Hp) : Prop where
  go : ∀ (pins : List (Addr × Obj)) (s : Shared), Inv X pins σ H s →
  wpAny (model X.prog X.w) X.A (exec st X.env) (SP X pins D) X.xe s
structure WL (X : Cx) (st : List Stmt) (D : Ends) (σ : L2.St) (H : Hp) : Prop where
  go : ∀ (pins : List (Addr × Obj)) (s : Shared), Inv X pins σ H s →
  wpAny (model X.prog X.w) X.A (execs st X.env) (SP X pins D) X.xe s
theorem pE {e : Expr} : PE X e (WE X e) := ⟨fun pins s _ _ _ I h => h.go pins s I⟩
theorem pT {e : Expr} : PT X e (WT X e) := ⟨fun pins s _ _ _ I h => h.go pins s I⟩
theorem pW {e : Expr} : PW X e (WW X e) := ⟨fun wh pins s _ _ _ I h => h.go wh pins s I⟩
theorem pA {es : List Expr} : PA X es (WA X es) := ⟨fun pos pins s _ _ _ I h => h.go pos pins s I⟩
theorem pS {st : Stmt} : PS X st (WS X st) := ⟨fun pins s _ _ _ I h => h.go pins s I⟩
theorem pL {st : List Stmt} : PSs X st (WL X st) := ⟨fun pins s _ _ _ I h => h.go pins s I⟩
variable {e a b c : Expr} {es rest : List Expr} {t : TE} {tt : TT} {ta : TA} {ts : TS} {σ : L2.St} {H : Hp} {Q : VK} {R : Bool → Hp → Prop} {U : List V → Hp → Prop} {D : Ends} {pos pos' : Pos} {st : Stmt} {sts : List Stmt} {v : V} {x : Str}
theorem toE (h : PE X e t) (q : t σ H Q) : WE X e σ H Q := ⟨fun pins s I => h.run pins s σ H Q I q⟩
theorem toT (h : PT X e tt) (q : tt σ H R) : WT X e σ H R := ⟨fun pins s I => h.run pins s σ H R I q⟩
theorem toW (h : PW X e tt) (q : tt σ H R) : WW X e σ H R := ⟨fun wh pins s I => h.run wh pins s σ H R I q⟩
theorem toA (h : PA X es ta) (q : ta σ H U) : WA X es σ H U := ⟨fun pos pins s I => h.run pos pins s σ H U I q⟩
theorem toS (h : PS X st ts) (q : ts D σ H) : WS X st D σ H := ⟨fun pins s I => h.run pins s σ H D I q⟩
theorem toL (h : PSs X sts ts) (q : ts D σ H) : WL X sts D σ H := ⟨fun pins s I => h.run pins s σ H D I q⟩
theorem WE.mono {Q' : VK} (h : WE X e σ H Q) (k : ∀ v H', Q v H' → Q' v H') : WE X e σ H Q' := ⟨fun pins s I =>
  thn (h.go pins s I) fun _ _ ⟨v, H', I', r, q⟩ => ⟨v, H', I', r, k v H' q⟩⟩
theorem SP.mono {pins : List (Addr × Obj)} {D' : Ends} {f : Flow} {s' : Shared} (h : SP X pins D f s') (k1 : ∀ σ H, D.nx σ H → D'.nx σ H) (k2 : ∀ v H, D.rt v H → D'.rt v H)
    (k3 : ∀ σ H, D.bk σ H → D'.bk σ H) (k4 : ∀ σ H, D.ct σ H → D'.ct σ H) : SP X pins D' f s' := by
  cases f with
  | next => obtain ⟨σ', H', I, q⟩ := h; exact ⟨σ', H', I, k1 _ _ q⟩
  | brk => obtain ⟨σ', H', I, q⟩ := h; exact ⟨σ', H', I, k3 _ _ q⟩
  | cont => obtain ⟨σ', H', I, q⟩ := h; exact ⟨σ', H', I, k4 _ _ q⟩
  | ret u => obtain ⟨v, σ', H', I, r, q⟩ := h; exact ⟨v, σ', H', I, r, k2 _ _ q⟩
theorem WS.mono {D' : Ends} (h : WS X st D σ H) (k1 : ∀ σ H, D.nx σ H → D'.nx σ H) (k2 : ∀ v H, D.rt v H → D'.rt v H) (k3 : ∀ σ H, D.bk σ H → D'.bk σ H) (k4 : ∀ σ H, D.ct σ H → D'.ct σ H) : WS X st D' σ H :=
  ⟨fun pins s I => thn (h.go pins s I) fun _ _ q => SP.mono q k1 k2 k3 k4⟩
/-- cut behind a statement: P stands there -/
theorem WS.cut {D : Ends} {nx : L2.St → Hp → Prop} (P : L2.St → Hp → Prop) (h : WS X st { D with nx := P } σ H) (k : ∀ σ H, P σ H → nx σ H) : WS X st { D with nx := nx } σ H :=
  WS.mono h k (fun _ _ q => q) (fun _ _ q => q) (fun _ _ q => q)

/-! expressions -/
theorem e_var (i : Nat) (h : σ[i]? = some (some v)) (q : Q v H) (hN : X.N[i]? = some x := by rfl) (hv : Vis X.env.scope x := by first | exact Or.inl rfl | exact Or.inr (Or.inl rfl) | exact Or.inr (Or.inr rfl))
    (hd : (x == ("__debug__" : Str)) = false := by decide) (hcd : (x == ("__classdict__" : Str)) = false := by decide) : WE X (.Name x pos) σ H Q := toE (pe_var hN hv hd hcd) ⟨v, h, q⟩
theorem e_int {i : Int} {j} (q : Q (.int i) H) : WE X (.Constant (.int i) j pos) σ H Q := toE pe_int q
theorem e_bl {i : Bool} {j} (q : Q (.bl i) H) : WE X (.Constant (.bool i) j pos) σ H Q := toE pe_bl q
theorem e_non {j} (q : Q .non H) : WE X (.Constant .none j pos) σ H Q := toE pe_non q
theorem e_str {z : Str} {j} (q : Q (.str z) H) : WE X (.Constant (.str z) j pos) σ H Q := toE pe_str q
theorem e_glob {u : Value} (hm : X.mg x = some u) (r : RelV v u) (q : Q v H) (hg : Gl X x := by rfl) (hd : (x == ("__debug__" : Str)) = false := by decide) : WE X (.Name x pos) σ H Q := toE (pe_glob hg hm r hd) q
theorem e_bltn {u : Value} (hm : X.mg x = none) (hv : bootBuiltins x = some u) (r : RelV v u) (q : Q v H) (hg : Gl X x := by rfl) (hn : x ≠ "__name__" := by decide) (hd : (x == ("__debug__" : Str)) = false := by decide) : WE X (.Name x pos) σ H Q :=
  toE (pe_bltn hg hm hv r hn hd) q
theorem e_op {op : Operator} {r : R2} (ho : OpR X (binaryOp op) r) (h : WE X a σ H fun x H1 => WE X b σ H1 fun y H2 => r x y H2 Q) : WE X (.BinOp a op b pos) σ H Q := toE (pe_op ho pE pE) h
theorem e_un {op : UnaryOp} {r : V → Hp → VK → Prop} (ho : UnR X (unaryOp op) r) (h : WE X a σ H fun x H1 => r x H1 Q) : WE X (.UnaryOp op a pos) σ H Q := toE (pe_un ho pE) h
theorem e_cmp {op : CmpOp} {r : R2} (ho : OpR X (compareOp op) r) (h : WE X a σ H fun x H1 => WE X b σ H1 fun y H2 => r x y H2 Q) (hm : behindInMarks op b = false := by first | exact nomark _ | with_unfolding_all rfl) : WE X (.Compare a [op] [b] pos) σ H Q :=
  toE (pe_cmpR ho pE pE hm) h
theorem e_and (h : WE X a σ H fun x H1 => ∃ k, x = .bl k ∧ (k = true → WE X (.BoolOp .And (b :: rest) pos) σ H1 Q) ∧ (k = false → Q (.bl false) H1)) : WE X (.BoolOp .And (a :: b :: rest) pos) σ H Q :=
  toE (pe_and pE pE) (WE.mono h fun v H' ⟨k, e, h1, h2⟩ => ⟨k, e, by cases k with | true => exact h1 rfl | false => exact h2 rfl⟩)
theorem e_or (h : WE X a σ H fun x H1 => ∃ k, x = .bl k ∧ (k = true → Q (.bl true) H1) ∧ (k = false → WE X (.BoolOp .Or (b :: rest) pos) σ H1 Q)) : WE X (.BoolOp .Or (a :: b :: rest) pos) σ H Q :=
  toE (pe_or pE pE) (WE.mono h fun v H' ⟨k, e, h1, h2⟩ => ⟨k, e, by cases k with | true => exact h1 rfl | false => exact h2 rfl⟩)
theorem e_one {op} (h : WE X a σ H Q) : WE X (.BoolOp op [a] pos) σ H Q := toE (pe_one pE) h
theorem e_not (h : WE X a σ H fun x H1 => ∃ k, x = .bl k ∧ Q (.bl (!k)) H1) : WE X (.UnaryOp .Not a pos) σ H Q := toE (pe_not pE) h
theorem e_if (h : WT X c σ H fun k H1 => (k = true → WE X a σ H1 Q) ∧ (k = false → WE X b σ H1 Q)) : WE X (.IfExp c a b pos) σ H Q :=
  toE (pe_ifExp (tA := fun σ H R => WT X c σ H R) pT pE pE) ⟨fun pins s I => thn (h.go pins s I) fun k s' ⟨H', I', h1, h2⟩ => ⟨H', I', by cases k with | true => exact h1 rfl | false => exact h2 rfl⟩⟩
theorem e_tup {k} (h : WA X es σ H fun xs H1 => xs.length ≤ sizeLine ∧ ∀ p, H1 p = none → Q (.ref p) (upd H1 p (.tup xs))) : WE X (.Tuple es k pos) σ H Q := toE (pe_tup pA) h
theorem e_lst (h : WA X es σ H fun xs H1 => xs.length ≤ sizeLine ∧ ∀ p, H1 p = none → Q (.ref p) (upd H1 p (.lst xs))) : WE X (.List es pos) σ H Q := toE (pe_lst pA) h
theorem e_ix {r : R2} (hr : IxR X r) (h : WE X a σ H fun x H1 => WE X b σ H1 fun y H2 => r x y H2 Q) (hs : PlainIx b := by exact fun _ _ => rfl) : WE X (.Subscript a b pos) σ H Q := toE (pe_ix hr pE pE hs) h
theorem e_callB {id : String} {r : List V → Hp → VK → Prop} {p : Pos} (hc : CallR X (.builtin id) r) (hm : X.mg x = none) (hv : bootBuiltins x = some (.builtin id)) (h : WA X (e :: es) σ H fun vs H1 => r vs H1 Q) (hg : Gl X x := by rfl)
    (hn : x ≠ "__name__" := by decide) (hdb : (x == ("__debug__" : Str)) = false := by decide) (he : starEach (e :: es) X.env = (false, eval e X.env) :: starEach es X.env := by rfl) (hpl : (backTo pos (starEach es X.env)).any (·.1) = false := by rfl) :
    WE X (.Call (.Name x p) (e :: es) [] pos) σ H Q := toE (pe_callB hc hg hm hv pA hn hdb he hpl) h
theorem e_callT {T : String} {r : List V → Hp → VK → Prop} {p : Pos} (hc : CallR X (.type T) r) (hm : X.mg x = none) (hv : bootBuiltins x = some (.type T)) (h : WA X (e :: es) σ H fun vs H1 => r vs H1 Q) (hg : Gl X x := by rfl)
    (hn : x ≠ "__name__" := by decide) (hdb : (x == ("__debug__" : Str)) = false := by decide) (he : starEach (e :: es) X.env = (false, eval e X.env) :: starEach es X.env := by rfl) (hpl : (backTo pos (starEach es X.env)).any (·.1) = false := by rfl) :
    WE X (.Call (.Name x p) (e :: es) [] pos) σ H Q := toE (pe_callTy hc hg hm hv pA hn hdb he hpl) h
theorem a_nil (q : U [] H) : WA X [] σ H U := toA pa_nil q
theorem a_cons (h : WE X e σ H fun x H1 => WA X es σ H1 fun xs H2 => U (x :: xs) H2) (hs : starEach (e :: es) X.env = (false, eval e X.env) :: starEach es X.env := by rfl) : WA X (e :: es) σ H U := toA (pa_cons pE pA hs) h

/-! tests -/
theorem t_cmp {op : CmpOp} {r : R2} (ho : OpR X (compareOp op) r) (h : WE X a σ H fun x H1 => WE X b σ H1 fun y H2 => r x y H2 fun z H3 => ∃ k, z = .bl k ∧ R k H3) (hm : behindInMarks op b = false := by first | exact nomark _ | with_unfolding_all rfl) : WT X (.Compare a [op] [b] pos) σ H R :=
  toT (pt_cmpR ho pE pE hm) h
theorem t_chain {op op' : CmpOp} {r r' : R2} (ho : OpR X (compareOp op) r) (ho' : OpR X (compareOp op') r') (h : tChain r r' (WE X a) (WE X b) (WE X c) σ H fun z H3 => ∃ k, z = .bl k ∧ R k H3)
    (hm : lastMarks [op, op'] [b, c] = false := by with_unfolding_all rfl) : WT X (.Compare a [op, op'] [b, c] pos) σ H R := toT (pt_chain ho ho' pE pE pE hm) h
theorem e_chain {op op' : CmpOp} {r r' : R2} (ho : OpR X (compareOp op) r) (ho' : OpR X (compareOp op') r') (h : tChain r r' (WE X a) (WE X b) (WE X c) σ H Q)
    (hm : lastMarks [op, op'] [b, c] = false := by with_unfolding_all rfl) : WE X (.Compare a [op, op'] [b, c] pos) σ H Q := toE (pe_chain ho ho' pE pE pE hm) h
theorem t_not (h : WT X a σ H fun k H1 => R (!k) H1) : WT X (.UnaryOp .Not a pos) σ H R := toT (pt_not pT) h
theorem WT.mono {R' : Bool → Hp → Prop} (h : WT X e σ H R) (k : ∀ b H', R b H' → R' b H') : WT X e σ H R' := ⟨fun pins s I => thn (h.go pins s I) fun _ _ ⟨H', I', q⟩ => ⟨H', I', k _ H' q⟩⟩
theorem w_and (h : WT X a σ H fun k H1 => (k = true → WW X (.BoolOp .And (b :: rest) pos) σ H1 R) ∧ (k = false → R false H1)) : WW X (.BoolOp .And (a :: b :: rest) pos) σ H R :=
  toW (pw_and pT pW) (WT.mono h fun k H' ⟨h1, h2⟩ => by cases k with | true => exact h1 rfl | false => exact h2 rfl)
theorem w_or (h : WT X a σ H fun k H1 => (k = true → R true H1) ∧ (k = false → WW X (.BoolOp .Or (b :: rest) pos) σ H1 R)) : WW X (.BoolOp .Or (a :: b :: rest) pos) σ H R :=
  toW (pw_or pT pW) (WT.mono h fun k H' ⟨h1, h2⟩ => by cases k with | true => exact h1 rfl | false => exact h2 rfl)
theorem w_and1 (h : WT X a σ H R) : WW X (.BoolOp .And [a] pos) σ H R := toW (pw_and1 pT) h
theorem w_or1 (h : WT X a σ H R) : WW X (.BoolOp .Or [a] pos) σ H R := toW (pw_or1 pT) h
theorem t_w (h : WW X e σ H R) : WT X e σ H R := ⟨fun pins s I => h.go _ pins s I⟩
theorem t_val (h : WE X e σ H fun x H1 => ∃ k, x = .bl k ∧ R k H1) (he : ∀ whole, isTrue e X.env whole = (do let v ← whole; standAt e.pos; holding [v] (truthy v)) := by intro _; rfl) : WT X e σ H R := toT (pt_val pE he) h
theorem t_tru (h : WE X e σ H fun x H1 => ∃ k, TruV X.K x H1 k ∧ R k H1) (he : ∀ whole, isTrue e X.env whole = (do let v ← whole; standAt e.pos; holding [v] (truthy v)) := by intro _; rfl) : WT X e σ H R := toT (pt_truth pE he) h

/-! statements -/
theorem l_nil (q : D.nx σ H) : WL X [] D σ H := toL pss_nil q
theorem l_cons (h : WS X st { D with nx := fun σ' H' => WL X sts D σ' H' } σ H) : WL X (st :: sts) D σ H := toL (pss_cons pS pL) h
theorem l_one (h : WS X st D σ H) : WL X [st] D σ H := toL (pss_one pS) h
theorem s_ret (h : WE X e σ H D.rt) : WS X (.Return (some e) pos) D σ H := toS (ps_ret pE) h
theorem s_if {l1 l2 : List Stmt} (h : WT X c σ H fun k H1 => (k = true → WL X l1 D σ H1) ∧ (k = false → WL X l2 D σ H1)) : WS X (.If c l1 l2 pos) D σ H :=
  toS (ps_if pT pL pL) (WT.mono h fun k H' ⟨h1, h2⟩ => by cases k with | true => exact h1 rfl | false => exact h2 rfl)
theorem s_set (i : Nat) (h : WE X e σ H fun v H1 => D.nx (σ.set i (some v)) H1) (hN : X.N.Nodup) (hi : X.N[i]? = some x := by rfl) (hx : Loc X.env.scope x := by first | exact Or.inl rfl | exact Or.inr rfl)
    (hs : swapsWith e (some (.Name x pos')) pos.line X.env = pure false := by rfl) (hf : X.fn x = true ∨ X.env.scope.names.lookup x = some .local := by first | exact .inl rfl | exact .inr rfl | assumption) : WS X (.Assign [.Name x pos'] e pos) D σ H :=
  toS (ps_set hN hi hx pE hs hf) h
theorem s_expr (h : WE X e σ H fun _ H1 => D.nx σ H1) (hs : swapsWith e none pos.line X.env = pure false := by rfl) : WS X (.Expr e pos) D σ H := toS (ps_expr pE hs) h
theorem s_asg {tg : Expr} {g : TG} (hg : PG X tg g) (h : WE X e σ H fun v H1 => g v σ H1 D.nx) (hs : swapsWithSole [tg] e pos.line X.env = pure false := by rfl) (hw : swappedStores [tg] e X.env = pure none := by rfl)
    (h1 : (assignEach [tg] X.env).map (·.2) = [assign tg X.env] := by rfl) : WS X (.Assign [tg] e pos) D σ H := toS (ps_asg pE hg hs hw h1) h
end
end My

namespace My
open PySem PySem.Spec PyProof.Rows L2

/-! ### defs that may ask for a repr: called where no repr runs -/
structure FnG (P : Program) (w : World) (K : PySem.W.Frag) (mg : Str → Option Value) (base : Heap) (k : Nat) (f : Addr) (fd : FuncData) (ps : List Str) (sp : Sp) : Prop where
  len : ∀ vs H Q E, sp vs H Q E → vs.length = ps.length
  go : ∀ (B : Around) (out : List Env) (s : Shared) (H : Hp) (ar : Args) (us : List Value) (vs : List V) (Q : VK) (E : XK), Room k B → B.guards = some [] → Env0 P w K mg base B out s H →
    BindsTo s fd ar (ps.zip us) → Vals vs us → sp vs H Q E → codeAny (model P w) B (.call (.ref f) ar) (CR CX0 out P w H s Q E) s
theorem FnG.of {P : Program} {w : World} {K : PySem.W.Frag} {mg : Str → Option Value} {base : Heap} {k : Nat} {f : Addr} {fd : FuncData} {ps : List Str} {sp : Sp} (F : FnOk P w K mg base CX0 k f fd ps sp) : FnG P w K mg base k f fd ps sp :=
  ⟨F.len, fun B out s H ar us vs Q E hr _ e hb hv hs => F.run B out s H ar us vs Q E hr e hb hv hs⟩
/-- a def's body, run where no repr runs -/
theorem Fun.okG {P : Program} {w : World} {K : PySem.W.Frag} {mg : Str → Option Value} {base : Heap} {x qual : Str} {st : Stmt} {f : Addr} {fd : FuncData} {N ps : List Str} {k : Nat} {sp : Sp} (F : Fun K x qual st f fd) (S : FnScope N ps (defScope st))
    (len : ∀ vs H Q E, sp vs H Q E → vs.length = ps.length)
    (body : ∀ (cdv : Value) (B : Around) (out : List Env) (s : Shared) (H : Hp) (vs : List V) (Q : VK) (E : XK), Room k (B.deeper (envOfC qual (defScope st) s.heap.objs.size f cdv)) →
      (B.deeper (envOfC qual (defScope st) s.heap.objs.size f cdv)).guards = some [] → sp vs H Q E →
      WL (cxOf CX0 P w K mg base N qual (defScope st) f cdv B out s H E).nox (defBody st) { nx := fun _ H' => Q .non H', rt := Q } (start N vs) H) : FnG P w K mg base (k + 1) f fd ps sp := by
  obtain ⟨oc, od, kV, doc, pm, an, cdv, ct, osl, rfl, lk, hcd⟩ := F.ex
  constructor
  · exact len
  · intro B out s H ar us vs Q E hr hG e hb hv hs
    have nv : vs.length = ps.length := len _ _ _ _ hs
    have inK : K.In s.heap := e.mod.kin.keeps fun b o z => (e.bs b o z).1
    have free : s.heap.NoLimit := e.mod.nolimit.keeps fun b o z => (e.bs b o z).1
    refine codeAny_call_function hr.depth (inK _ _ lk) rfl S.co S.gen rfl (PySem.W.codeRec_of inK hcd) (hb _ _ _ _ ?_)
    refine wpAny_newFunctionEnv_cells S.kind (fun y hy => ?_) fun env he s1 z => ?_
    · rcases S.par y.1 (List.of_mem_zip (a := y.1) (b := y.2) hy).1 with q | q
      · exact Or.inl q
      · exact Or.inr ⟨q, PySem.W.cellsFrom_some _ _ _ (Or.inl q)⟩
    · subst he
      refine ⟨free.keeps z.toInCall.keep, codeAny_func ?_⟩
      have hq := body cdv B out s H vs Q E (hr.deeper _) hG hs
      have I : Inv (cxOf CX0 P w K mg base N qual (defScope st) f cdv B out s H E) [] (start N vs) H s1 := inv_start S hr.hd e nv hv z
      have run := (pL (X := (cxOf CX0 P w K mg base N qual (defScope st) f cdv B out s H E).nox)).nox.run [] s1 (start N vs) H _ I hq
      refine wpAny_mono run (fun fl s' q => ?_) fun _ _ q => q
      cases fl with
      | brk => obtain ⟨_, _, _, q⟩ := q; exact q.elim
      | cont => obtain ⟨_, _, _, q⟩ := q; exact q.elim
      | next => obtain ⟨σ', H', J, q⟩ := q; exact ⟨V.non, H', J.os, J.bare, J.base, J.hok, rfl, q⟩
      | ret u => obtain ⟨v, σ', H', J, rv, q⟩ := q; exact ⟨v, H', J.os, J.bare, J.base, J.hok, rv, q⟩
theorem Fun.okW {P : Program} {w : World} {K : PySem.W.Frag} {mg : Str → Option Value} {base : Heap} {x qual : Str} {st : Stmt} {f : Addr} {fd : FuncData} {N ps : List Str} {k : Nat} {sp : Sp} (F : Fun K x qual st f fd) (S : FnScope N ps (defScope st))
    (len : ∀ vs H Q E, sp vs H Q E → vs.length = ps.length)
    (body : ∀ (cdv : Value) (B : Around) (out : List Env) (s : Shared) (H : Hp) (vs : List V) (Q : VK) (E : XK), Room k (B.deeper (envOfC qual (defScope st) s.heap.objs.size f cdv)) → sp vs H Q E →
      WL (cxOf CX0 P w K mg base N qual (defScope st) f cdv B out s H E).nox (defBody st) { nx := fun _ H' => Q .non H', rt := Q } (start N vs) H) : FnOk P w K mg base CX0 (k + 1) f fd ps sp :=
  F.ok S len fun cdv A outer s H vs Q E hr h => ⟨_, pL, body cdv A outer s H vs Q E hr h⟩
/-- all of a def, by its name -/
structure CalN (P : Program) (w : World) (K : PySem.W.Frag) (mg : Str → Option Value) (base : Heap) (k : Nat) (x : Str) (sp : Sp) : Prop where
  ex : ∃ (f : Addr) (fd : FuncData) (ps : List Str), FnOk P w K mg base CX0 k f fd ps sp ∧ mg x = some (.ref f) ∧ PySem.W.keepIn K (.ref f) = true ∧ Binds K fd ps []
/-- all of a def that may ask for a repr, by its name -/
structure CalG (P : Program) (w : World) (K : PySem.W.Frag) (mg : Str → Option Value) (base : Heap) (k : Nat) (x : Str) (sp : Sp) : Prop where
  ex : ∃ (f : Addr) (fd : FuncData) (ps : List Str), FnG P w K mg base k f fd ps sp ∧ mg x = some (.ref f) ∧ PySem.W.keepIn K (.ref f) = true ∧ Binds K fd ps []
section
variable {X : Cx} {e : Expr} {es : List Expr} {σ : L2.St} {H : Hp} {Q : VK} {pos p : Pos} {x : Str} {k j : Nat} {sp : Sp}
theorem e_c (c : CalN X.prog X.w X.K X.mg X.base k x sp) (hr : Room j X.A) (hk : k ≤ j) (h : WA X (e :: es) σ H fun vs H1 => sp (vs ++ []) H1 Q E0) (hg : Gl X x := by rfl)
    (hdb : (x == ("__debug__" : Str)) = false := by decide) (he : starEach (e :: es) X.env = (false, eval e X.env) :: starEach es X.env := by rfl) (hpl : (backTo pos (starEach es X.env)).any (·.1) = false := by rfl) :
    WE X (.Call (.Name x p) (e :: es) [] pos) σ H Q := by
  obtain ⟨f, fd, ps, F, hm, kp, hb⟩ := c.ex
  exact toE (pe_call F (hr.mono hk) hg hm kp hb .nil pass0 pA hdb he hpl) h
theorem e_cG (c : CalG X.prog X.w X.K X.mg X.base k x sp) (hr : Room j X.A) (hG : X.A.guards = some []) (hk : k ≤ j) (h : WA X (e :: es) σ H fun vs H1 => sp vs H1 Q E0) (hg : Gl X x := by rfl)
    (hdb : (x == ("__debug__" : Str)) = false := by decide) (he : starEach (e :: es) X.env = (false, eval e X.env) :: starEach es X.env := by rfl) (hpl : (backTo pos (starEach es X.env)).any (·.1) = false := by rfl) :
    WE X (.Call (.Name x p) (e :: es) [] pos) σ H Q := by
  obtain ⟨f, fd, ps, F, hm, kp, hb⟩ := c.ex
  constructor
  intro pins s I
  refine wpAny_Call_Name_kw (ld_glob I hg hm ?_ hdb)
  refine PySem.W.callWith_K (h₀ := X.base) I.ok.mod.kin kp (thn (h.go pos pins s I) fun us s1 ⟨vs, H1, I1, r, q⟩ => ⟨I1.kIn, ?_⟩) he hpl
  have nl : (us ++ []).length = ps.length := by rw [List.append_nil, ← r.length]; exact F.len _ _ _ _ q
  refine wpAny_call (codeAny_mono (F.go X.A X.stack s1 H1 ⟨us, []⟩ us vs Q E0 (hr.mono hk) hG I1.env0 (by simpa using hb s1 us I1.kIn nl) r q) fun r' s' z => ?_)
  cases r' with
  | error _ => exact z.elim
  | ok fl =>
    cases fl with
    | ret u => exact I1.after z
    | next => exact z.elim
    | brk => exact z.elim
    | cont => exact z.elim
end

/-! ### data and its repr -/
theorem Dp.noDict : ∀ (d : PyData) {K : PySem.W.Frag} {H : Hp} {v : V}, Dp K H v d → d.hasDict = false
  | .none, _, _, _, _ => rfl
  | .bool _, _, _, _, _ => rfl
  | .int _, _, _, _, _ => rfl
  | .str _, _, _, _, _ => rfl
  | .list ds, _, _, _, h => by cases h with | lst _ ha => exact noDictAll ds ha
  | .tuple ds, _, _, _, h => by cases h with | tup _ ha => exact noDictAll ds ha
  | .dict _, _, _, _, h => by cases h
where noDictAll : ∀ (ds : List PyData) {K : PySem.W.Frag} {H : Hp} {vs : List V}, DpAll K H vs ds → PyData.hasDictAll ds = false
  | [], _, _, _, _ => rfl
  | d :: ds, _, _, _, h => by
    cases h with
    | cons h1 h2 =>
      show (PyData.hasDict d || PyData.hasDictAll ds) = false
      rw [Dp.noDict d h1, noDictAll ds h2]
      rfl
/-- data at any depth, or a dict of scalars -/
def kD : Key → PyData
  | .inl i => .int i
  | .inr x => .str x
inductive Da (K : PySem.W.Frag) (H : Hp) : V → PyData → Prop
  | dp {v : V} {d : PyData} (h : Dp K H v d) : Da K H v d
  | dct {a : Addr} {kvs : List (Key × V)} {ds : List PyData} (h : H a = some (.dK kvs)) (e : DpAll K H (kvs.map (·.2)) ds) (flat : ∀ d ∈ ds, ∃ x, d = .str x ∨ ∃ i, d = .int i) : Da K H (.ref a) (.dict ((kvs.map fun p => kD p.1).zip ds))
section
variable {X : Cx} {pins : List (Addr × Obj)} {σ : L2.St} {H : Hp} {s : Shared}
theorem call_repr (hG : X.A.guards = some []) (hu : X.A.units + 64 < cLine) : CallR X (.builtin "repr") (fun xs H Q => ∃ x d, xs = [x] ∧ Dp X.K H x d ∧ d.showable = true ∧ d.depth ≤ 60 ∧ d.shown.length ≤ sizeLine ∧ Q (.str d.shown) H) := by
  intro pins s σ H xs us Q I r h
  obtain ⟨x, d, rfl, hd, hs, hp, hz, q⟩ := h
  obtain ⟨u, rfl, rx⟩ := vals1 r
  have nd := Dp.noDict d hd
  obtain ⟨as, rd⟩ := Dp.reads I d x u hd rx
  cases hd with
  | non => cases rx; exact PySem.P.repr_of_none ⟨.str _, H, I.tok _, ⟨_, rfl⟩, q⟩
  | bl b => cases rx; exact PySem.P.repr_of_bool ⟨.str _, H, I.tok _, ⟨_, rfl⟩, q⟩
  | int i =>
    obtain ⟨t, rfl⟩ := rx
    exact PySem.P.repr_of_int (by simpa [PyData.showable] using hs) ⟨.str _, H, I.tok _, ⟨_, rfl⟩, q⟩
  | str z =>
    obtain ⟨t, rfl⟩ := rx
    exact PySem.P.repr_of_str ⟨.str _, H, I.tok _, ⟨_, rfl⟩, q⟩ hz
  | lst _ _ =>
    cases rx
    exact repr_of_reads' rd hs (fun z => by rw [nd] at z; cases z) hG (by omega) (fun _ _ e => e) (fun h' t tk hk => ⟨.str _, H, I.kept hk, ⟨_, rfl⟩, q⟩) hz
  | tup _ _ =>
    cases rx
    exact repr_of_reads' rd hs (fun z => by rw [nd] at z; cases z) hG (by omega) (fun _ _ e => e) (fun h' t tk hk => ⟨.str _, H, I.kept hk, ⟨_, rfl⟩, q⟩) hz
end
end My

namespace My
open PySem PySem.Spec PyProof.Rows L2
section
variable {X : Cx} {σ : L2.St} {H : Hp} {Q : VK} {pos : Pos} {elt tg iter : Expr} {scope : Scope} {x : Str} {j : Nat}
/-- the block of a comprehension, in whatever frame it runs -/
def WB (X : Cx) (scope : Scope) (e : Expr) : TE := fun σ H Q => ∀ (s : Shared) (H0 : Hp) (C : Addr) (cl : List (Str × Addr)) (fp : List Addr), WE (X.blk s H0 scope (compEnvC scope cl C X.env) fp) e σ H Q
def WBT (X : Cx) (scope : Scope) (e : Expr) : TT := fun σ H R => ∀ (s : Shared) (H0 : Hp) (C : Addr) (cl : List (Str × Addr)) (fp : List Addr), WT (X.blk s H0 scope (compEnvC scope cl C X.env) fp) e σ H R
theorem set_wipe (σ : L2.St) (j : Nat) (v : V) : wipe ((wipe σ [j]).set j (some v)) [j] = wipe σ [j] := by
  show ((σ.set j none).set j (some v)).set j none = σ.set j none
  rw [List.set_set, List.set_set]
theorem e_lc {wi : TI} {pt : Pos} (j : Nat) (hi : PI X (.Name x pt) iter wi) (hN : X.N.Nodup) (ok : BlkOk X.N X.env.scope scope [(x, j)])
    (hg : ∀ (s : Shared) (H : Hp) (C : Addr) (cl : List (Str × Addr)) (fp : List Addr), PG (X.blk s H scope (compEnvC scope cl C X.env) fp) (.Name x pt) (gName j))
    (h : tLc wi (gName j) tYes (WB X scope elt) [j] σ H Q) (hc : X.calm = true := by rfl) (hs : ∀ z, foldedSetIterable iter X.env z = pure z := by intro _; rfl) :
    WE X (.ListComp elt [⟨.Name x pt, iter, [], 0⟩] scope pos) σ H Q :=
  toE (pe_lc (own := [(x, j)]) hc hN hi ok hg (fun _ _ _ _ _ => pts_nil) (fun s H0 C cl fp => ⟨fun pins s' σ' H' Q' I q => (q s H0 C cl fp).go pins s' I⟩) hs) h
/-- over a list: Pv by the turn and the heap, D the new list -/
theorem e_lcL {pt : Pos} (j : Nat) (hN : X.N.Nodup) (ok : BlkOk X.N X.env.scope scope [(x, j)])
    (h : WE X iter σ H fun v H1 => ∃ a xs, v = .ref a ∧ SqL X.K H1 a xs ∧ ∀ D, H1 D = none → ∃ Pv : Nat → Hp → Prop, Pv 0 (upd H1 D (.lst [])) ∧ (∀ i H, i ≤ xs.length → Pv i H → SqL X.K H a xs) ∧
      (∀ i y H, xs[i]? = some y → Pv i H → WB X scope elt ((wipe σ [j]).set j (some y)) H fun z H4 => ∃ acc, H4 D = some (.lst acc) ∧ acc.length < sizeLine ∧ Pv (i + 1) (upd H4 D (.lst (acc ++ [z])))) ∧
      ∀ H, Pv xs.length H → Q (.ref D) H)
    (hg : ∀ (s : Shared) (H : Hp) (C : Addr) (cl : List (Str × Addr)) (fp : List Addr), PG (X.blk s H scope (compEnvC scope cl C X.env) fp) (.Name x pt) (gName j))
    (hc : X.calm = true := by rfl) (hs : ∀ z, foldedSetIterable iter X.env z = pure z := by intro _; rfl) :
    WE X (.ListComp elt [⟨.Name x pt, iter, [], 0⟩] scope pos) σ H Q :=
  e_lc j (pi_list pE) hN ok hg (WE.mono h fun v H1 ⟨a, xs, e, hS, k⟩ => ⟨a, e, ⟨xs, hS⟩, fun D nD => by
    obtain ⟨Pv, p0, pl, ps, pd⟩ := k D nD
    exact lc_list (g := gName j) (tt := tYes) (te := WB X scope elt) (vs := [j]) (σ := σ) Pv p0 pl (fun i y H hi p => ⟨set_wipe σ j y, ps i y H hi p⟩) pd⟩) hc hs
theorem e_lcT {pt : Pos} (j : Nat) (hN : X.N.Nodup) (ok : BlkOk X.N X.env.scope scope [(x, j)])
    (h : WE X iter σ H fun v H1 => ∃ a xs, v = .ref a ∧ SqT X.K H1 a xs ∧ ∀ D, H1 D = none → ∃ Pv : Nat → Hp → Prop, Pv 0 (upd H1 D (.lst [])) ∧ (∀ i H, i ≤ xs.length → Pv i H → SqT X.K H a xs) ∧
      (∀ i y H, xs[i]? = some y → Pv i H → WB X scope elt ((wipe σ [j]).set j (some y)) H fun z H4 => ∃ acc, H4 D = some (.lst acc) ∧ acc.length < sizeLine ∧ Pv (i + 1) (upd H4 D (.lst (acc ++ [z])))) ∧
      ∀ H, Pv xs.length H → Q (.ref D) H)
    (hg : ∀ (s : Shared) (H : Hp) (C : Addr) (cl : List (Str × Addr)) (fp : List Addr), PG (X.blk s H scope (compEnvC scope cl C X.env) fp) (.Name x pt) (gName j))
    (hc : X.calm = true := by rfl) (hs : ∀ z, foldedSetIterable iter X.env z = pure z := by intro _; rfl) :
    WE X (.ListComp elt [⟨.Name x pt, iter, [], 0⟩] scope pos) σ H Q :=
  e_lc j (pi_tup pE) hN ok hg (WE.mono h fun v H1 ⟨a, xs, e, hS, k⟩ => ⟨a, e, ⟨xs, hS⟩, fun D nD => by
    obtain ⟨Pv, p0, pl, ps, pd⟩ := k D nD
    exact lc_tup (g := gName j) (tt := tYes) (te := WB X scope elt) (vs := [j]) (σ := σ) Pv p0 pl (fun i y H hi p => ⟨set_wipe σ j y, ps i y H hi p⟩) pd⟩) hc hs
theorem WA.mono {es : List Expr} {U U' : List V → Hp → Prop} (h : WA X es σ H U) (k : ∀ vs H', U vs H' → U' vs H') : WA X es σ H U' := ⟨fun pos pins s I => thn (h.go pos pins s I) fun _ _ ⟨vs, H', I', r, q⟩ => ⟨vs, H', I', r, k vs H' q⟩⟩
/-- over range(n) -/
theorem e_lcR {a : Expr} {p pc pt : Pos} (j : Nat) (hm : X.mg "range" = none) (hN : X.N.Nodup) (ok : BlkOk X.N X.env.scope scope [(x, j)])
    (h : WE X a σ H fun v H1 => ∃ n : Nat, v = .int n ∧ n < 2 ^ 62 ∧ ∀ D, H1 D = none → ∃ Pv : Nat → Hp → Prop, Pv 0 (upd H1 D (.lst [])) ∧
      (∀ i H, i < n → Pv i H → WB X scope elt ((wipe σ [j]).set j (some (.int i))) H fun z H4 => ∃ acc, H4 D = some (.lst acc) ∧ acc.length < sizeLine ∧ Pv (i + 1) (upd H4 D (.lst (acc ++ [z])))) ∧
      ∀ H, Pv n H → Q (.ref D) H)
    (hg : ∀ (s : Shared) (H : Hp) (C : Addr) (cl : List (Str × Addr)) (fp : List Addr), PG (X.blk s H scope (compEnvC scope cl C X.env) fp) (.Name x pt) (gName j))
    (hgl : Gl X "range" := by rfl) (hst : starEach [a] X.env = [(false, eval a X.env)] := by rfl)
    (hc : X.calm = true := by rfl) (hs : ∀ z, foldedSetIterable (.Call (.Name "range" p) [a] [] pc) X.env z = pure z := by intro _; rfl) :
    WE X (.ListComp elt [⟨.Name x pt, .Call (.Name "range" p) [a] [] pc, [], 0⟩] scope pos) σ H Q :=
  e_lc j (pi_range1 hgl hm (pA (es := [a])) hst) hN ok hg (a_cons (WE.mono h fun v H1 ⟨n, e, hn, k⟩ => a_nil ⟨(n : Int), by rw [e], by omega, by omega, fun D nD => by
    obtain ⟨Pv, p0, ps, pd⟩ := k D nD
    have en : ((n : Int)).toNat = n := by omega
    rw [en]
    refine lc_range (g := gName j) (tt := tYes) (te := WB X scope elt) (vs := [j]) (σ := σ) Pv p0 (fun i H hi p => ⟨set_wipe σ j _, ?_⟩) pd
    have e0 : (0 : Int) + (i : Int) = (i : Int) := Int.zero_add _
    rw [e0]
    exact ps i H hi p⟩) (by rw [hst]; rfl)) hc hs
/-- over a text, sign by sign -/
theorem e_lcS {pt : Pos} (j : Nat) (hN : X.N.Nodup) (ok : BlkOk X.N X.env.scope scope [(x, j)])
    (h : WE X iter σ H fun v H1 => ∃ z : Str, v = .str z ∧ ∀ D, H1 D = none → ∃ Pv : Nat → Hp → Prop, Pv 0 (upd H1 D (.lst [])) ∧
      (∀ i c H, z.cps[i]? = some c → Pv i H → WB X scope elt ((wipe σ [j]).set j (some (.str ⟨#[c]⟩))) H fun z H4 => ∃ acc, H4 D = some (.lst acc) ∧ acc.length < sizeLine ∧ Pv (i + 1) (upd H4 D (.lst (acc ++ [z])))) ∧
      ∀ H, Pv z.cps.size H → Q (.ref D) H)
    (hg : ∀ (s : Shared) (H : Hp) (C : Addr) (cl : List (Str × Addr)) (fp : List Addr), PG (X.blk s H scope (compEnvC scope cl C X.env) fp) (.Name x pt) (gName j))
    (hc : X.calm = true := by rfl) (hs : ∀ z, foldedSetIterable iter X.env z = pure z := by intro _; rfl) :
    WE X (.ListComp elt [⟨.Name x pt, iter, [], 0⟩] scope pos) σ H Q :=
  e_lc j (pi_str pE) hN ok hg (WE.mono h fun v H1 ⟨z, e, k⟩ => ⟨z, e, fun D nD => by
    obtain ⟨Pv, p0, ps, pd⟩ := k D nD
    refine ⟨fun i m H => m = z.cps.size - i ∧ i ≤ z.cps.size ∧ Pv i H, ⟨z.cps.size, by simp, Nat.zero_le _, p0⟩, ?_⟩
    rintro i m H ⟨rfl, hi, p⟩
    by_cases hlt : i < z.cps.size
    · refine .inr ⟨hlt, Pv (i + 1), fun H' p' => ⟨z.cps.size - (i + 1), by omega, rfl, hlt, p'⟩, fun y H' hy => ?_⟩
      obtain ⟨rfl, c, hcx, rfl⟩ := hy
      exact ⟨set_wipe σ j _, ps i c _ hcx p⟩
    · have e : i = z.cps.size := by omega
      subst e
      exact .inl ⟨Nat.le_refl _, pd H p⟩⟩) hc hs
end
/-! ### loops -/
section
variable {X : Cx} {σ : L2.St} {H : Hp} {pos : Pos} {tg iter : Expr} {body : List Stmt} {D : Ends} {g : TG}
theorem s_for {wi : TI} (hi : PI X tg iter wi) (hg : PG X tg g) (h : tFor wi g (WL X body) D σ H) (hp : PassesOwn (model X.prog X.w) X.A X.env X.xe) (hc : X.calm = true := by rfl)
    (hs : ∀ x, foldedSetIterable iter X.env x = pure x := by intro _; rfl) : WS X (.For tg iter body [] pos) D σ H := toS (ps_for hp hc hi hg pL hs) h
theorem s_forL (hg : PG X tg g) (h : WE X iter σ H fun v H1 => ∃ a xs, v = .ref a ∧ SqL X.K H1 a xs ∧ ∃ Pv : Nat → L2.St → Hp → Prop, Pv 0 σ H1 ∧ (∀ i σ H, i ≤ xs.length → Pv i σ H → SqL X.K H a xs) ∧
      (∀ i y σ H, xs[i]? = some y → Pv i σ H → g y σ H fun σ2 H2 => WL X body { D with nx := Pv (i + 1), ct := Pv (i + 1), bk := D.nx } σ2 H2) ∧ ∀ σ H, Pv xs.length σ H → D.nx σ H)
    (hp : PassesOwn (model X.prog X.w) X.A X.env X.xe) (hc : X.calm = true := by rfl) (hs : ∀ x, foldedSetIterable iter X.env x = pure x := by intro _; rfl) : WS X (.For tg iter body [] pos) D σ H :=
  s_for (pi_list pE) hg (WE.mono h fun v H1 ⟨a, xs, e, hS, Pv, p0, pl, ps, pd⟩ => ⟨a, e, ⟨xs, hS⟩, for_list Pv p0 pl ps pd⟩) hp hc hs
theorem s_forR {a : Expr} {p pc : Pos} (hm : X.mg "range" = none) (hg : PG X tg g) (h : WE X a σ H fun v H1 => ∃ n : Nat, v = .int n ∧ n < 2 ^ 62 ∧ ∃ Pv : Nat → L2.St → Hp → Prop, Pv 0 σ H1 ∧
      (∀ i σ H, i < n → Pv i σ H → g (.int i) σ H fun σ2 H2 => WL X body { D with nx := Pv (i + 1), ct := Pv (i + 1), bk := D.nx } σ2 H2) ∧ ∀ σ H, Pv n σ H → D.nx σ H)
    (hp : PassesOwn (model X.prog X.w) X.A X.env X.xe) (hgl : Gl X "range" := by rfl) (hst : starEach [a] X.env = [(false, eval a X.env)] := by rfl) (hc : X.calm = true := by rfl)
    (hs : ∀ z, foldedSetIterable (.Call (.Name "range" p) [a] [] pc) X.env z = pure z := by intro _; rfl) : WS X (.For tg (.Call (.Name "range" p) [a] [] pc) body [] pos) D σ H :=
  s_for (pi_range1 hgl hm (pA (es := [a])) hst) hg (a_cons (WE.mono h fun v H1 ⟨n, e, hn, Pv, p0, ps, pd⟩ => a_nil ⟨(n : Int), by rw [e], by omega, by omega, by
    have en : ((n : Int)).toNat = n := by omega
    rw [en]
    refine for_range Pv p0 (fun i σ H hi p => ?_) pd
    have e0 : (0 : Int) + (i : Int) = (i : Int) := Int.zero_add _
    rw [e0]
    exact ps i σ H hi p⟩) (by rw [hst]; rfl)) hp hc hs
end
end My

namespace My
open PySem PySem.Spec PyProof.Rows L2
/-- the call of a law whose def may ask for a repr, from one abstract heap that knows the script at most -/
theorem law_core {P : Program} {w : World} {K : PySem.W.Frag} {mg mb : Str → Option Value} {k : Nat} {fa a : Addr} {fd : FuncData} {x : Str} {sp : Sp} {s₁ : Shared} {vs : List Value} {H : Hp}
    (KX : K.In s₁.heap) (hns : s₁.heap.Ns mainGlobals mg) (hb : s₁.heap.Ns builtinsNs mb) (hbb : ∀ x : Str, x ≠ "__name__" → mb x = bootBuiltins x) (hlim : s₁.heap.NoLimit) (hg : s₁.gens = #[])
    (ha : s₁.heap.get? a = some { cls := .type "list", data := .seq vs.toArray }) (hr : Room k callerA)
    (F : ∀ base : Heap, K.In base → base.Ns mainGlobals mg → FnG P w K mg base k fa fd [x] sp) (bind : ∀ (s : Shared) (u : Value), BindsTo s fd ⟨[u], []⟩ [(x, u)])
    (hO : Only H) (hok : HOk P w H s₁.heap) (at' : ∀ b, H b ≠ none → b = a) (hK : H a ≠ none → K.lookup a = none) (hsp : sp [.ref a] H (fun v _ => v = .bl true) fun _ _ _ => False) :
    codeAny (model P w) callerA (.call (.ref fa) ⟨[.ref a], []⟩) (fun r s' => r = .ok (.ret (.bool true)) ∧ OldK s₁.heap s'.heap ∧ s'.os = s₁.os ∧ AllBare s'.gens) s₁ := by
  have unl : ∀ {b : Addr} {m : Str → Option Value}, s₁.heap.Ns b m → (hidT s₁.heap H).Ns b m := by
    rintro b m ⟨o, es, ep, e, d, r⟩
    refine ⟨o, es, ep, hidT_get e ?_, d, r⟩
    refine Classical.byContradiction fun z => ?_
    have eb := at' b z
    rw [eb, ha] at e
    rw [← Option.some.inj e] at d
    exact Data.noConfusion d
  have inK : K.In (hidT s₁.heap H) := fun b o e => hidT_get (KX b o e) (Classical.byContradiction fun z => by
    have eb := at' b z
    subst eb
    rw [hK z] at e
    cases e)
  have md : Mod K mg (hidT s₁.heap H) := { kin := inK, glob := unl hns, blt := ⟨mb, unl hb, hbb⟩, nolimit := by obtain ⟨mc, h1, h2⟩ := hlim; exact ⟨mc, unl h1, h2⟩ }
  have e0 : Env0 P w K mg (hidT s₁.heap H) callerA [] s₁ H :=
    { frames := rfl, mod := md, bs := fun b o e => of_hidT e, bsz := Nat.le_of_eq (hidT_size _ _), funs := trivial, frf := fun b z => absurd (show b ∈ ([] : List Addr) from z) (by simp), hok := hok, bare := .of_eq hg }
  have run := (F _ inK (unl hns)).go callerA [] s₁ H ⟨[.ref a], []⟩ [.ref a] [.ref a] _ _ hr rfl e0 (bind s₁ (.ref a)) (.cons rfl .nil) hsp
  refine codeAny_mono run fun r s' z => ?_
  match r, z with
  | .error e, z => exact False.elim z
  | .ok .next, z => exact False.elim z
  | .ok .brk, z => exact False.elim z
  | .ok .cont, z => exact False.elim z
  | .ok (.ret u), z =>
    obtain ⟨v, H', h1, h2, h3, h4, h5, h6⟩ := z
    have ev : v = .bl true := h6
    rw [ev] at h5
    have eu : u = Value.bool true := h5
    rw [eu]
    refine ⟨rfl, OldK.of_keep fun b o e => ?_, h1, h2⟩
    rcases hO b with n | ⟨ob, xs, n⟩
    · exact h3.keep b o e n (fun z => by cases z) (fun z => by cases z)
    · obtain ⟨g1, _⟩ := hok b _ n
      obtain ⟨g2, _⟩ := h4 b _ (h3.frzs b ob _ n)
      rw [e] at g1
      rw [Option.some.inj g1]
      exact g2
theorem law_G {P : Program} {w : World} {K : PySem.W.Frag} {mg mb : Str → Option Value} {k : Nat} {fa a : Addr} {fd : FuncData} {x : Str} {sp : Sp} {s₁ : Shared} {vs : List Value} {ns : List Int}
    (KX : K.In s₁.heap) (hns : s₁.heap.Ns mainGlobals mg) (hb : s₁.heap.Ns builtinsNs mb) (hbb : ∀ x : Str, x ≠ "__name__" → mb x = bootBuiltins x) (hlim : s₁.heap.NoLimit) (hg : s₁.gens = #[])
    (ha : s₁.heap.get? a = some { cls := .type "list", data := .seq vs.toArray }) (hi : IntsAre vs ns) (hl : ns.length ≤ sizeLine) (hr : Room k callerA)
    (F : ∀ base : Heap, K.In base → base.Ns mainGlobals mg → FnG P w K mg base k fa fd [x] sp) (bind : ∀ (s : Shared) (u : Value), BindsTo s fd ⟨[u], []⟩ [(x, u)])
    (hsp : ∀ H : Hp, Only H → SqL K H a (ns.map V.int) → sp [.ref a] H (fun v _ => v = .bl true) fun _ _ _ => False) :
    codeAny (model P w) callerA (.call (.ref fa) ⟨[.ref a], []⟩) (fun r s' => r = .ok (.ret (.bool true)) ∧ OldK s₁.heap s'.heap ∧ s'.os = s₁.os ∧ AllBare s'.gens) s₁ := by
  have rv := vals_ints hi
  have nl : vs.length ≤ sizeLine := by rw [hi.length]; exact hl
  cases hk : K.lookup a with
  | some o =>
    have e := KX a o hk
    rw [ha] at e
    have eo := Option.some.inj e
    subst eo
    exact law_core (H := fun _ => none) KX hns hb hbb hlim hg ha hr F bind (fun _ => .inl rfl) (fun b u z => by cases z) (fun b z => absurd rfl z) (fun z => absurd rfl z)
      (hsp _ (fun _ => .inl rfl) (.inr ⟨_, vs.toArray, _, hk, rfl, rfl, rfl, by simpa using nl, by simpa using rv⟩))
  | none =>
    have only : Only (upd (fun _ => none) a (.frz { cls := .type "list", data := .seq vs.toArray } (.lst (ns.map V.int)))) := fun b => by
      by_cases e : b = a
      · exact .inr ⟨_, _, by rw [e, upd_same]⟩
      · exact .inl (upd_ne e)
    refine law_core (H := upd (fun _ => none) a (.frz { cls := .type "list", data := .seq vs.toArray } (.lst (ns.map V.int)))) KX hns hb hbb hlim hg ha hr F bind only (fun b u z => ?_) (fun b z => ?_) (fun _ => hk)
      (hsp _ only (.inl (.inr ⟨_, upd_same⟩)))
    · by_cases e : b = a
      · subst e
        rw [upd_same] at z
        have eu := Option.some.inj z
        subst eu
        exact ⟨ha, by rw [List.length_map]; exact hl, vs, _, rv, ha⟩
      · rw [upd_ne e] at z
        cases z
    · refine Classical.byContradiction fun e => z ?_
      rw [upd_ne e]
theorem walk_G {l : PySem.W.OpenLaw} {n k : Nat} {q : Program} {loose : List Str} {XP : (Str → Option Value) → Heap → Prop} {YP : World → Heap → Prop} {d : DefRec} {K : Params → PySem.W.Frag} {sp : World → Sp} {x : Str}
    (hn : l.most = some n) (hn2 : n ≤ sizeLine) (hdf : d.params.defaults = []) (hr : Room k callerA) (hY : ∀ (w : World) (h : Heap), YP w h → (K w.params).In h)
    (F : ∀ (w : World) (mg : Str → Option Value) (fa : Addr) (h : Heap), (K w.params).In h → h.Ns mainGlobals mg → mg d.name = some (.ref fa) →
      ∃ fd : FuncData, (∀ (s : Shared) (u : Value), BindsTo s fd ⟨[u], []⟩ [(x, u)]) ∧ ∀ base : Heap, (K w.params).In base → base.Ns mainGlobals mg → FnG l.prog w (K w.params) mg base k fa fd [x] (sp w))
    (hsp : ∀ (w : World) (H : Hp) (a : Addr) (ns : List Int), ns.length ≤ n → Only H → SqL (K w.params) H a (ns.map V.int) → sp w [.ref a] H (fun v _ => v = .bl true) fun _ _ _ => False) :
    PySem.W.WalkO q loose XP YP l.row.toRowW d [] (fun f vs => PySem.call f vs) :=
  Att.attach_call hn hdf fun w s₀ s₁ mg mb fa o pm cd doc a vs ns G Y ho hd hcd hmg hobj hints hlen hg => by
    have KX := hY w _ Y
    obtain ⟨fd, bind, f⟩ := F w mg fa _ KX G.T.g hmg
    exact law_G KX G.T.g G.T.b G.T.builtins G.T.nolimit hg hobj hints (Nat.le_trans hlen hn2) hr f bind fun H hO hS => hsp w H a ns hlen hO hS
end My

namespace My
open PySem PySem.Spec PyProof.Rows L2
theorem same_new {H : Hp} {p : Addr} {o : HO} (h : H p = none) : Same H (upd H p o) := fun b x e => by rw [upd_ne (ne_of_none e h)]; exact e
theorem Same.seqT {K : PySem.W.Frag} {H H' : Hp} {a : Addr} {xs : List V} (e : Same H H') (h : SqT K H a xs) : SqT K H' a xs := by
  rcases h with (h | ⟨o, h⟩) | h
  · exact .inl (.inl (e _ _ h))
  · exact .inl (.inr ⟨o, e _ _ h⟩)
  · exact .inr h
/-- a change of what H does not know -/
theorem same_mut {H H' : Hp} {p : Addr} {o : HO} (e : Same H H') (h : H p = none) : Same H (upd H' p o) := fun b x z => by rw [upd_ne (ne_of_none z h)]; exact e b x z
/-- all but the object at p is as it was -/
def But (p : Addr) (H H' : Hp) : Prop := ∀ b o, b ≠ p → H b = some o → H' b = some o
theorem But.refl (p : Addr) (H : Hp) : But p H H := fun _ _ _ e => e
theorem But.trans {p : Addr} {H H1 H2 : Hp} (a : But p H H1) (b : But p H1 H2) : But p H H2 := fun c o n e => b c o n (a c o n e)
theorem But.of {p : Addr} {H H' : Hp} (e : Same H H') : But p H H' := fun b o _ h => e b o h
theorem But.upd {p : Addr} {H : Hp} {o : HO} : But p H (upd H p o) := fun b x n e => by rw [upd_ne n]; exact e
theorem But.free {p a : Addr} {H H' : Hp} (e : But p H H') (n : a ≠ p) (h : H' a = none) : H a = none := by
  cases q : H a with
  | none => rfl
  | some o => rw [e a o n q] at h; cases h
section
variable {X : Cx} {a b c e l : Expr} {es : List Expr} {σ : L2.St} {H : Hp} {Q : VK} {R : Bool → Hp → Prop} {D : Ends} {pos p p2 p3 pc apos : Pos} {x : Str}
/-- e[:h] of a list; of a tuple -/
theorem e_slL {h : Expr} (k : WE X e σ H fun x H1 => WE X h σ H1 fun y H2 => ∃ i a xs, y = .int i ∧ x = .ref a ∧ SqL X.K H2 a xs ∧ ∀ q, H2 q = none → Q (.ref q) (upd H2 q (.lst (cutV xs none (some i))))) :
    WE X (.Subscript e (.Slice none (some h) none p2) pos) σ H Q :=
  toE (pe_slice sl_list pE po_none (po_some pE)) (WE.mono k fun x H1 k1 => WE.mono k1 fun y H2 ⟨i, a, xs, e1, e2, hS, q⟩ => ⟨i, e1, a, xs, e2, hS, q⟩)
theorem e_slT {h : Expr} (k : WE X e σ H fun x H1 => WE X h σ H1 fun y H2 => ∃ i a xs, y = .int i ∧ x = .ref a ∧ SqT X.K H2 a xs ∧ ¬ (HT.sIx xs.length 0 none = 0 ∧ HT.sIx xs.length xs.length (some i) = xs.length) ∧ ∀ q, H2 q = none → Q (.ref q) (upd H2 q (.tup (cutV xs none (some i))))) :
    WE X (.Subscript e (.Slice none (some h) none p2) pos) σ H Q :=
  toE (pe_slice sl_tup pE po_none (po_some pE)) (WE.mono k fun x H1 k1 => WE.mono k1 fun y H2 ⟨i, a, xs, e1, e2, hS, hn, q⟩ => ⟨i, e1, a, xs, e2, hS, hn, q⟩)
/-- ints: a + b, a * b, a % b, a // b -/
theorem e_addI (k : WE X a σ H fun x H1 => WE X b σ H1 fun y H2 => ∃ i j, x = .int i ∧ y = .int j ∧ Q (.int (i + j)) H2) : WE X (.BinOp a .Add b pos) σ H Q := e_op op_add k
theorem e_subI (k : WE X a σ H fun x H1 => WE X b σ H1 fun y H2 => ∃ i j, x = .int i ∧ y = .int j ∧ Q (.int (i - j)) H2) : WE X (.BinOp a .Sub b pos) σ H Q := e_op op_sub k
theorem e_mulI (k : WE X a σ H fun x H1 => WE X b σ H1 fun y H2 => ∃ i j, x = .int i ∧ y = .int j ∧ CMul i j ∧ Q (.int (i * j)) H2) : WE X (.BinOp a .Mult b pos) σ H Q := e_op op_mul k
theorem e_modI (k : WE X a σ H fun x H1 => WE X b σ H1 fun y H2 => ∃ i j, x = .int i ∧ y = .int j ∧ 0 < j ∧ Q (.int (i % j)) H2) : WE X (.BinOp a .Mod b pos) σ H Q := e_op op_mod k
theorem e_divI (k : WE X a σ H fun x H1 => WE X b σ H1 fun y H2 => ∃ i j, x = .int i ∧ y = .int j ∧ CDiv i j ∧ Q (.int (i / j)) H2) : WE X (.BinOp a .FloorDiv b pos) σ H Q := e_op op_fdiv k
theorem e_addS (k : WE X a σ H fun x H1 => WE X b σ H1 fun y H2 => ∃ i j, x = .str i ∧ y = .str j ∧ i.length + j.length ≤ sizeLine ∧ Q (.str (i ++ j)) H2) : WE X (.BinOp a .Add b pos) σ H Q := e_op op_add_str k
theorem e_cat (k : WE X a σ H fun x H1 => WE X b σ H1 fun y H2 => ∃ l m xs zs, x = .ref l ∧ y = .ref m ∧ H2 l = some (.lst xs) ∧ H2 m = some (.lst zs) ∧ xs.length + zs.length ≤ sizeLine ∧ ∀ q, H2 q = none → Q (.ref q) (upd H2 q (.lst (xs ++ zs)))) : WE X (.BinOp a .Add b pos) σ H Q := e_op op_cat k
theorem e_ixL (k : WE X a σ H fun x H1 => WE X b σ H1 fun y H2 => ∃ l xs i v, x = .ref l ∧ y = .int i ∧ SqL X.K H2 l xs ∧ atI xs i = some v ∧ Q v H2) (hs : PlainIx b := by exact fun _ _ => rfl) : WE X (.Subscript a b pos) σ H Q := e_ix ix_list k hs
theorem e_ixT (k : WE X a σ H fun x H1 => WE X b σ H1 fun y H2 => ∃ l xs i v, x = .ref l ∧ y = .int i ∧ SqT X.K H2 l xs ∧ atI xs i = some v ∧ Q v H2) (hs : PlainIx b := by exact fun _ _ => rfl) : WE X (.Subscript a b pos) σ H Q := e_ix ix_tup k hs
theorem mul_sk : OpR X (binaryOp .Mult) (fun x y H Q => ∃ z n, x = .str z ∧ y = .int n ∧ PySem.MulOk z n ∧ Q (.str (Txt.mul z n)) H) := by
  intro pins s σ H x y v u Q I rx ry h
  obtain ⟨z, n, rfl, rfl, hz, q⟩ := h
  obtain ⟨t, rfl⟩ := rx
  obtain ⟨t', rfl⟩ := ry
  exact PySem.SB.mul hz (fun t' k => ⟨.str _, H, I.tok _, ⟨_, rfl⟩, q⟩)
/-- int(e) -/
theorem e_intI (hm : X.mg "int" = none) (k : WE X e σ H fun x H1 => (∃ i, x = .int i ∧ Q (.int i) H1) ∨ ∃ b, x = .bl b ∧ Q (.int (if b then 1 else 0)) H1) (hg : Gl X "int" := by rfl)
    (he : starEach [e] X.env = (false, eval e X.env) :: starEach [] X.env := by rfl) (hpl : (backTo pos (starEach [] X.env)).any (·.1) = false := by rfl) : WE X (.Call (.Name "int" p) [e] [] pos) σ H Q :=
  e_callT call_int1 hm PyProof.Rows.boot_int (a_cons (WE.mono k fun x H1 k1 => a_nil (by
    rcases k1 with ⟨i, rfl, q⟩ | ⟨b, rfl, q⟩
    · exact .inl ⟨i, rfl, q⟩
    · exact .inr ⟨b, rfl, q⟩)) he) hg (by decide) (by decide) he hpl
/-- len(e) -/
theorem e_len (hm : X.mg "len" = none) (k : WE X e σ H fun x H1 => ∃ l xs, x = .ref l ∧ (SqL X.K H1 l xs ∨ SqT X.K H1 l xs) ∧ Q (.int xs.length) H1) (hg : Gl X "len" := by rfl)
    (he : starEach [e] X.env = (false, eval e X.env) :: starEach [] X.env := by rfl) (hpl : (backTo pos (starEach [] X.env)).any (·.1) = false := by rfl) : WE X (.Call (.Name "len" p) [e] [] pos) σ H Q :=
  e_callB call_len_seq hm PySem.boot_len (a_cons (WE.mono k fun x H1 ⟨l, xs, e1, hS, q⟩ => a_nil ⟨l, xs, by rw [e1], hS, q⟩) he) hg (by decide) (by decide) he hpl
theorem e_lenS (hm : X.mg "len" = none) (k : WE X e σ H fun x H1 => ∃ z, x = .str z ∧ z.length ≤ sizeLine ∧ Q (.int z.length) H1) (hg : Gl X "len" := by rfl)
    (he : starEach [e] X.env = (false, eval e X.env) :: starEach [] X.env := by rfl) (hpl : (backTo pos (starEach [] X.env)).any (·.1) = false := by rfl) : WE X (.Call (.Name "len" p) [e] [] pos) σ H Q :=
  e_callB call_len_str hm PySem.boot_len (a_cons (WE.mono k fun x H1 ⟨z, e1, hS, q⟩ => a_nil ⟨z, by rw [e1], hS, q⟩) he) hg (by decide) (by decide) he hpl
/-- isinstance(e, T) -/
theorem e_isi {T : String} (hi : X.mg "isinstance" = none) (hT : X.mg x = none) (bT : bootBuiltins x = some (.type T)) (k : WE X e σ H fun v H1 => ∃ t b, TyX X.K H1 v (.type t) ∧ kitB t T = some b ∧ Q (.bl b) H1)
    (hg : Gl X "isinstance" := by rfl) (hgT : Gl X x := by rfl) (hn : x ≠ "__name__" := by decide) (hd : (x == ("__debug__" : Str)) = false := by decide)
    (he : starEach [e, .Name x p2] X.env = (false, eval e X.env) :: starEach [.Name x p2] X.env := by rfl) (he2 : starEach [.Name x p2] X.env = (false, eval (.Name x p2) X.env) :: starEach [] X.env := by rfl)
    (hpl : (backTo pos (starEach [.Name x p2] X.env)).any (·.1) = false := by rfl) :
    WE X (.Call (.Name "isinstance" p) [e, .Name x p2] [] pos) σ H Q :=
  e_callB call_isi hi PyProof.Rows.boot_isinstance (a_cons (WE.mono k fun v H1 ⟨t, b, ht, hk, q⟩ => a_cons (e_bltn (v := .ty T) hT bT rfl (a_nil ⟨v, .ty T, .type t, .type T, b, rfl, .ty T, ht, kit_ty hk, q⟩) hgT hn hd) he2) he) hg (by decide) (by decide) he hpl
/-- lo <= e <= hi -/
theorem t_btw (k : WE X a σ H fun x H1 => WE X b σ H1 fun y H2 => ∃ i j, x = .int i ∧ y = .int j ∧ (i ≤ j → WE X c σ H2 fun z H3 => ∃ m, z = .int m ∧ R (decide (j ≤ m)) H3) ∧ (¬ i ≤ j → R false H2))
    (hm : lastMarks [.LtE, .LtE] [b, c] = false := by with_unfolding_all rfl) : WT X (.Compare a [.LtE, .LtE] [b, c] pos) σ H R :=
  t_chain op_le op_le (WE.mono k fun x H1 k1 => WE.mono k1 fun y H2 ⟨i, j, e1, e2, h1, h2⟩ => ⟨i, j, e1, e2, decide (i ≤ j), rfl, by
    by_cases hij : i ≤ j
    · rw [decide_eq_true hij, if_pos rfl]
      exact WE.mono (h1 hij) fun z H3 ⟨m, e3, r⟩ => ⟨j, m, e2, e3, _, rfl, r⟩
    · rw [decide_eq_false hij, if_neg Bool.false_ne_true]
      exact ⟨false, rfl, h2 hij⟩⟩) hm
/-- e is None -/
theorem t_isN (k : WE X a σ H fun x H1 => R (decide (x = .non)) H1) {j} : WT X (.Compare a [.Is] [.Constant .none j p] pos) σ H R :=
  t_cmp op_isN (WE.mono k fun x H1 r => e_non ⟨rfl, _, rfl, r⟩) (by first | exact nomark _ | rfl)
/-- comparisons of scalars -/
theorem t_eq (k : WE X a σ H fun x H1 => WE X b σ H1 fun y H2 => scal x y = true ∧ R (decide (x = y)) H2) (hm : behindInMarks .Eq b = false := by first | exact nomark _ | with_unfolding_all rfl) : WT X (.Compare a [.Eq] [b] pos) σ H R :=
  t_cmp op_eq (WE.mono k fun x H1 k1 => WE.mono k1 fun y H2 ⟨h, r⟩ => ⟨h, _, rfl, r⟩) hm
theorem t_ne (k : WE X a σ H fun x H1 => WE X b σ H1 fun y H2 => scal x y = true ∧ R (!decide (x = y)) H2) (hm : behindInMarks .NotEq b = false := by first | exact nomark _ | with_unfolding_all rfl) : WT X (.Compare a [.NotEq] [b] pos) σ H R :=
  t_cmp op_ne (WE.mono k fun x H1 k1 => WE.mono k1 fun y H2 ⟨h, r⟩ => ⟨h, _, rfl, r⟩) hm
theorem t_lt (k : WE X a σ H fun x H1 => WE X b σ H1 fun y H2 => ∃ i j, x = .int i ∧ y = .int j ∧ R (decide (i < j)) H2) (hm : behindInMarks .Lt b = false := by first | exact nomark _ | with_unfolding_all rfl) : WT X (.Compare a [.Lt] [b] pos) σ H R :=
  t_cmp op_lt (WE.mono k fun x H1 k1 => WE.mono k1 fun y H2 ⟨i, j, e1, e2, r⟩ => ⟨i, j, e1, e2, _, rfl, r⟩) hm
theorem t_gt (k : WE X a σ H fun x H1 => WE X b σ H1 fun y H2 => ∃ i j, x = .int i ∧ y = .int j ∧ R (decide (j < i)) H2) (hm : behindInMarks .Gt b = false := by first | exact nomark _ | with_unfolding_all rfl) : WT X (.Compare a [.Gt] [b] pos) σ H R :=
  t_cmp op_gt (WE.mono k fun x H1 k1 => WE.mono k1 fun y H2 ⟨i, j, e1, e2, r⟩ => ⟨i, j, e1, e2, _, rfl, r⟩) hm
theorem t_ge (k : WE X a σ H fun x H1 => WE X b σ H1 fun y H2 => ∃ i j, x = .int i ∧ y = .int j ∧ R (decide (j ≤ i)) H2) (hm : behindInMarks .GtE b = false := by first | exact nomark _ | with_unfolding_all rfl) : WT X (.Compare a [.GtE] [b] pos) σ H R :=
  t_cmp op_ge (WE.mono k fun x H1 k1 => WE.mono k1 fun y H2 ⟨i, j, e1, e2, r⟩ => ⟨i, j, e1, e2, _, rfl, r⟩) hm
/-- l != [] of a list that is data -/
theorem t_neD (hu : X.A.units + 64 < cLine) (k : WE X a σ H fun x H1 => WE X b σ H1 fun y H2 => ∃ d e, Dp X.K H2 x d ∧ Dp X.K H2 y e ∧ SeqAt.shaped d = true ∧ SeqAt.shaped e = true ∧ R (!PyData.eqv d e) H2) (hm : behindInMarks .NotEq b = false := by first | exact nomark _ | with_unfolding_all rfl) :
    WT X (.Compare a [.NotEq] [b] pos) σ H R := t_cmp (op_neD hu) (WE.mono k fun x H1 k1 => WE.mono k1 fun y H2 ⟨d, e, h1, h2, h3, h4, r⟩ => ⟨d, e, h1, h2, h3, h4, _, rfl, r⟩) hm
/-- o[i] = e, a list -/
theorem s_setL (k : WE X e σ H fun v H1 => WE X a σ H1 fun o H2 => WE X b σ H2 fun i H3 => ∃ l xs m j, o = .ref l ∧ i = .int m ∧ H3 l = some (.lst xs) ∧ ixN xs.length m = some j ∧ D.nx σ (upd H3 l (.lst (xs.set j v))))
    (ha : ∀ v, assign (.Subscript a b p) X.env v = (do
      let ov ← holding [v] (eval a X.env)
      let iv ← holding [v, ov] (eval b X.env)
      standAt p
      holding [v, ov, iv] (setItem ov iv v)
      release [v, ov, iv] []) := by intro _; rfl)
    (hs : swapsWithSole [.Subscript a b p] e pos.line X.env = pure false := by rfl) (hw : swappedStores [.Subscript a b p] e X.env = pure none := by rfl)
    (h1 : (assignEach [.Subscript a b p] X.env).map (·.2) = [assign (.Subscript a b p) X.env] := by rfl) : WS X (.Assign [.Subscript a b p] e pos) D σ H :=
  s_asg (pg_sub pE pE set_list ha) (WE.mono k fun v H1 k1 => WE.mono k1 fun o H2 k2 => WE.mono k2 fun i H3 ⟨l, xs, m, j, e1, e2, e3, e4, q⟩ => ⟨l, xs, m, j, e1, e2, e3, e4, q⟩) hs hw h1
end
end My

namespace My
open PySem PySem.Spec PyProof.Rows L2
/-! ### data made of tuples alone -/
mutual
inductive DT (H : Hp) : V → PyData → Prop
  | non : DT H .non .none
  | bl (b : Bool) : DT H (.bl b) (.bool b)
  | int (i : Int) : DT H (.int i) (.int i)
  | str (x : Str) : DT H (.str x) (.str x)
  | tup {a : Addr} {xs : List V} {ds : List PyData} : H a = some (.tup xs) → DTs H xs ds → DT H (.ref a) (.tuple ds)
inductive DTs (H : Hp) : List V → List PyData → Prop
  | nil : DTs H [] []
  | cons {v : V} {vs : List V} {d : PyData} {ds : List PyData} : DT H v d → DTs H vs ds → DTs H (v :: vs) (d :: ds)
end
/-- tuples stay -/
def Tup (H H' : Hp) : Prop := ∀ b xs, H b = some (.tup xs) → H' b = some (.tup xs)
theorem Tup.refl (H : Hp) : Tup H H := fun _ _ e => e
theorem Tup.trans {H H1 H2 : Hp} (a : Tup H H1) (b : Tup H1 H2) : Tup H H2 := fun c xs e => b c xs (a c xs e)
theorem Same.tups {H H' : Hp} (e : Same H H') : Tup H H' := fun b xs h => e b _ h
theorem Tup.new {H : Hp} {p : Addr} {o : HO} (h : H p = none) : Tup H (upd H p o) := Same.tups (same_new h)
theorem Tup.set {H : Hp} {p : Addr} {o : HO} {ys : List V} (h : H p = some (.lst ys)) : Tup H (upd H p o) := fun b xs e => by rw [upd_ne (ne_of e h (fun z => by cases z))]; exact e
theorem But.tups {p : Addr} {H H' : Hp} {ys : List V} (e : But p H H') (h : H p = some (.lst ys)) : Tup H H' := fun b xs z => e b _ (ne_of z h (fun z => by cases z)) z
mutual
theorem DT.mono {H H' : Hp} (e : Tup H H') : ∀ {d : PyData} {v : V}, DT H v d → DT H' v d
  | .none, _, h => by cases h; exact .non
  | .bool b, _, h => by cases h; exact .bl b
  | .int i, _, h => by cases h; exact .int i
  | .str x, _, h => by cases h; exact .str x
  | .list _, _, h => by cases h
  | .dict _, _, h => by cases h
  | .tuple ds, _, h => by cases h with | tup h1 h2 => exact .tup (e _ _ h1) (DTs.mono e h2)
theorem DTs.mono {H H' : Hp} (e : Tup H H') : ∀ {ds : List PyData} {vs : List V}, DTs H vs ds → DTs H' vs ds
  | [], _, h => by cases h; exact .nil
  | d :: ds, _, h => by cases h with | cons h1 h2 => exact .cons (DT.mono e h1) (DTs.mono e h2)
end
mutual
theorem DT.dp {K : PySem.W.Frag} {H : Hp} : ∀ {d : PyData} {v : V}, DT H v d → Dp K H v d
  | .none, _, h => by cases h; exact .non
  | .bool b, _, h => by cases h; exact .bl b
  | .int i, _, h => by cases h; exact .int i
  | .str x, _, h => by cases h; exact .str x
  | .list _, _, h => by cases h
  | .dict _, _, h => by cases h
  | .tuple ds, _, h => by cases h with | tup h1 h2 => exact .tup (.inl (.inl h1)) (DTs.dps h2)
theorem DTs.dps {K : PySem.W.Frag} {H : Hp} : ∀ {ds : List PyData} {vs : List V}, DTs H vs ds → DpAll K H vs ds
  | [], _, h => by cases h; exact .nil
  | d :: ds, _, h => by cases h with | cons h1 h2 => exact .cons (DT.dp h1) (DTs.dps h2)
end
theorem DTs.append {H : Hp} : ∀ {vs ws : List V} {ds es : List PyData}, DTs H vs ds → DTs H ws es → DTs H (vs ++ ws) (ds ++ es)
  | _, _, _, _, .nil, h => h
  | _, _, _, _, .cons h1 h2, h => .cons h1 (DTs.append h2 h)
theorem DTs.snoc {H : Hp} {vs : List V} {ds : List PyData} {v : V} {d : PyData} (h : DTs H vs ds) (k : DT H v d) : DTs H (vs ++ [v]) (ds ++ [d]) := h.append (.cons k .nil)
theorem DTs.length {H : Hp} : ∀ {vs : List V} {ds : List PyData}, DTs H vs ds → vs.length = ds.length
  | _, _, .nil => rfl
  | _, _, .cons _ h => congrArg (· + 1) (DTs.length h)
theorem DTs.get {H : Hp} : ∀ {vs : List V} {ds : List PyData} {i : Nat} {v : V}, DTs H vs ds → vs[i]? = some v → ∃ d, ds[i]? = some d ∧ DT H v d
  | _, _, _, _, .nil, e => by simp at e
  | _, _, 0, _, .cons h1 _, e => by simp at e; subst e; exact ⟨_, rfl, h1⟩
  | _, _, i + 1, _, .cons _ h2, e => by simpa using DTs.get h2 (by simpa using e)
theorem DTs.getD {H : Hp} : ∀ {vs : List V} {ds : List PyData} {i : Nat} {d : PyData}, DTs H vs ds → ds[i]? = some d → ∃ v, vs[i]? = some v ∧ DT H v d
  | _, _, _, _, .nil, e => by simp at e
  | _, _, 0, _, .cons h1 _, e => by simp at e; subst e; exact ⟨_, rfl, h1⟩
  | _, _, i + 1, _, .cons _ h2, e => by simpa using DTs.getD h2 (by simpa using e)
theorem DTs.strs {H : Hp} : ∀ zs : List Str, DTs H (zs.map V.str) (zs.map PyData.str)
  | [] => .nil
  | z :: zs => .cons (.str z) (DTs.strs zs)
theorem DTs.take {H : Hp} : ∀ {vs : List V} {ds : List PyData} (n : Nat), DTs H vs ds → DTs H (vs.take n) (ds.take n)
  | _, _, 0, _ => by simp only [List.take_zero]; exact .nil
  | _, _, _ + 1, .nil => .nil
  | _, _, n + 1, .cons h1 h2 => .cons h1 (DTs.take n h2)
/-- looking into a tuple -/
theorem DT.tupE {H : Hp} {v : V} {ds : List PyData} (h : DT H v (.tuple ds)) : ∃ a xs, v = .ref a ∧ H a = some (.tup xs) ∧ DTs H xs ds := by
  cases h with | tup h1 h2 => exact ⟨_, _, rfl, h1, h2⟩
theorem DT.strE {H : Hp} {v : V} {x : Str} (h : DT H v (.str x)) : v = .str x := by cases h; rfl
theorem DT.nonE {H : Hp} {v : V} (h : DT H v .none) : v = .non := by cases h; rfl
theorem DT.blE {H : Hp} {v : V} {b : Bool} (h : DT H v (.bool b)) : v = .bl b := by cases h; rfl
theorem DTs.e0 {H : Hp} {vs : List V} (h : DTs H vs []) : vs = [] := by cases h; rfl
theorem DTs.e1 {H : Hp} {vs : List V} {d : PyData} {ds : List PyData} (h : DTs H vs (d :: ds)) : ∃ v ws, vs = v :: ws ∧ DT H v d ∧ DTs H ws ds := by cases h with | cons h1 h2 => exact ⟨_, _, rfl, h1, h2⟩
theorem DT.tup2 {H : Hp} {v : V} {d e : PyData} (h : DT H v (.tuple [d, e])) : ∃ a x y, v = .ref a ∧ H a = some (.tup [x, y]) ∧ DT H x d ∧ DT H y e := by
  obtain ⟨a, xs, rfl, h1, h2⟩ := h.tupE
  obtain ⟨x, r, rfl, hx, h2⟩ := h2.e1
  obtain ⟨y, r, rfl, hy, h2⟩ := h2.e1
  cases h2.e0
  exact ⟨a, x, y, rfl, h1, hx, hy⟩
theorem DT.tup3 {H : Hp} {v : V} {d e f : PyData} (h : DT H v (.tuple [d, e, f])) : ∃ a x y z, v = .ref a ∧ H a = some (.tup [x, y, z]) ∧ DT H x d ∧ DT H y e ∧ DT H z f := by
  obtain ⟨a, xs, rfl, h1, h2⟩ := h.tupE
  obtain ⟨x, r, rfl, hx, h2⟩ := h2.e1
  obtain ⟨y, r, rfl, hy, h2⟩ := h2.e1
  obtain ⟨z, r, rfl, hz, h2⟩ := h2.e1
  cases h2.e0
  exact ⟨a, x, y, z, rfl, h1, hx, hy, hz⟩
theorem DT.tup4 {H : Hp} {v : V} {d e f g : PyData} (h : DT H v (.tuple [d, e, f, g])) : ∃ a x y z w, v = .ref a ∧ H a = some (.tup [x, y, z, w]) ∧ DT H x d ∧ DT H y e ∧ DT H z f ∧ DT H w g := by
  obtain ⟨a, xs, rfl, h1, h2⟩ := h.tupE
  obtain ⟨x, r, rfl, hx, h2⟩ := h2.e1
  obtain ⟨y, r, rfl, hy, h2⟩ := h2.e1
  obtain ⟨z, r, rfl, hz, h2⟩ := h2.e1
  obtain ⟨w, r, rfl, hw, h2⟩ := h2.e1
  cases h2.e0
  exact ⟨a, x, y, z, w, rfl, h1, hx, hy, hz, hw⟩
/-! ### sizes -/
mutual
def szD : PyData → Nat
  | .str x => 10 * x.length + 5
  | .tuple ds => szDs ds + 5
  | .none | .bool _ | .int _ | .list _ | .dict _ => 5
def szDs : List PyData → Nat
  | [] => 0
  | d :: ds => szD d + 2 + szDs ds
end
/-! no ints, lists, dicts; the texts have small signs -/
mutual
def okD : PyData → Bool
  | .str x => x.cps.toList.all fun c => decide (c < 128)
  | .tuple ds => okDs ds
  | .none | .bool _ => true
  | .int _ | .list _ | .dict _ => false
def okDs : List PyData → Bool
  | [] => true
  | d :: ds => okD d && okDs ds
end
mutual
theorem shown_le : ∀ d : PyData, okD d = true → d.shown.length ≤ szD d
  | .none, _ => by decide
  | .bool true, _ => by decide
  | .bool false, _ => by decide
  | .str x, h => by
    show (reprText x).length ≤ 10 * x.length + 5
    have := StrLaws.reprText_len x (fun c hc => Nat.lt_of_lt_of_le (of_decide_eq_true (List.all_eq_true.mp h c hc)) (by decide))
    omega
  | .tuple ds, h => by
    show (tupleText (PyData.shownAll ds)).length ≤ szDs ds + 5
    have h1 := tupleText_len_le (PyData.shownAll ds)
    have h2 := shownAll_le ds h
    omega
  | .int _, h => by cases h
  | .list _, h => by cases h
  | .dict _, h => by cases h
theorem shownAll_le : ∀ ds : List PyData, okDs ds = true → ((PyData.shownAll ds).map (·.length)).sum + 2 * (PyData.shownAll ds).length ≤ szDs ds
  | [], _ => by decide
  | d :: ds, h => by
    have h' : (okD d && okDs ds) = true := h
    simp only [Bool.and_eq_true] at h'
    have h1 := shown_le d h'.1
    have h2 := shownAll_le ds h'.2
    show (((PyData.shown d) :: PyData.shownAll ds).map (·.length)).sum + 2 * ((PyData.shown d) :: PyData.shownAll ds).length ≤ szD d + 2 + szDs ds
    rw [List.map_cons, List.sum_cons, List.length_cons]
    omega
end
mutual
theorem showable_ok : ∀ d : PyData, okD d = true → d.showable = true
  | .none, _ => rfl
  | .bool _, _ => rfl
  | .str _, _ => rfl
  | .tuple ds, h => showables_ok ds h
  | .int _, h => by cases h
  | .list _, h => by cases h
  | .dict _, h => by cases h
theorem showables_ok : ∀ ds : List PyData, okDs ds = true → PyData.showableAll ds = true
  | [], _ => rfl
  | d :: ds, h => by
    have h' : (okD d && okDs ds) = true := h
    simp only [Bool.and_eq_true] at h'
    show (PyData.showable d && PyData.showableAll ds) = true
    rw [showable_ok d h'.1, showables_ok ds h'.2]
    rfl
end
theorem okDs_of {ds : List PyData} (h : ∀ d ∈ ds, okD d = true) : okDs ds = true := by
  induction ds with
  | nil => rfl
  | cons d ds ih => show (okD d && okDs ds) = true; rw [h d List.mem_cons_self, ih fun x hx => h x (List.mem_cons_of_mem _ hx)]; rfl
theorem szDs_of {ds : List PyData} {n : Nat} (h : ∀ d ∈ ds, szD d ≤ n) : szDs ds ≤ ds.length * (n + 2) := by
  induction ds with
  | nil => exact Nat.zero_le _
  | cons d ds ih =>
    have h1 := h d List.mem_cons_self
    have h2 := ih fun x hx => h x (List.mem_cons_of_mem _ hx)
    show szD d + 2 + szDs ds ≤ (ds.length + 1) * (n + 2)
    rw [Nat.add_mul]
    omega
theorem depth_of {ds : List PyData} {n : Nat} (h : ∀ d ∈ ds, d.depth ≤ n) : PyData.depthAll ds ≤ n := by
  induction ds with
  | nil => exact Nat.zero_le _
  | cons d ds ih =>
    show max (PyData.depth d) (PyData.depthAll ds) ≤ n
    exact Nat.max_le.mpr ⟨h d List.mem_cons_self, ih fun x hx => h x (List.mem_cons_of_mem _ hx)⟩
theorem str_ext {x y : Str} (h : x.cps.toList = y.cps.toList) : x = y := by
  obtain ⟨a⟩ := x
  obtain ⟨b⟩ := y
  have e : a = b := Array.toList_inj.mp h
  rw [e]
theorem str_cat (x y : Str) : (x ++ y).cps.toList = x.cps.toList ++ y.cps.toList := Array.toList_append
theorem str_assoc (x y z : Str) : x ++ y ++ z = x ++ (y ++ z) := str_ext (by rw [str_cat, str_cat, str_cat, str_cat, List.append_assoc])
end My

namespace My
open PySem PySem.Spec PyProof.Rows L2
/-! ### data of any kind at addresses of which none is among S (the things that are still written to) -/
mutual
inductive DG (S : Addr → Prop) (H : Hp) : V → PyData → Prop
  | non : DG S H .non .none
  | bl (b : Bool) : DG S H (.bl b) (.bool b)
  | int (i : Int) : DG S H (.int i) (.int i)
  | str (x : Str) : DG S H (.str x) (.str x)
  | tup {a : Addr} {xs : List V} {ds : List PyData} (h : H a = some (.tup xs)) (hs : DGs S H xs ds) : DG S H (.ref a) (.tuple ds)
  | lst {a : Addr} {xs : List V} {ds : List PyData} (h : H a = some (.lst xs)) (n : ¬ S a) (hs : DGs S H xs ds) : DG S H (.ref a) (.list ds)
  | dct {a : Addr} {kvs : List (Key × V)} {ds : List PyData} (h : H a = some (.dK kvs)) (n : ¬ S a) (hs : DGs S H (kvs.map (·.2)) ds) : DG S H (.ref a) (.dict ((kvs.map fun p => kD p.1).zip ds))
inductive DGs (S : Addr → Prop) (H : Hp) : List V → List PyData → Prop
  | nil : DGs S H [] []
  | cons {v : V} {vs : List V} {d : PyData} {ds : List PyData} (h : DG S H v d) (hs : DGs S H vs ds) : DGs S H (v :: vs) (d :: ds)
end
/-- all but what is among S is as it was -/
def Not (S : Addr → Prop) (H H' : Hp) : Prop := ∀ a o, ¬ S a → H a = some o → H' a = some o
mutual
theorem DG.mono {S T : Addr → Prop} {H H' : Hp} (ht : Tup H H') (k : ∀ a o, ¬ S a → H a = some o → ¬ T a ∧ H' a = some o) : ∀ {v : V} {d : PyData}, DG S H v d → DG T H' v d
  | _, _, .non => .non
  | _, _, .bl b => .bl b
  | _, _, .int i => .int i
  | _, _, .str x => .str x
  | _, _, .tup h hs => .tup (ht _ _ h) (DGs.mono ht k hs)
  | _, _, .lst h n hs => .lst (k _ _ n h).2 (k _ _ n h).1 (DGs.mono ht k hs)
  | _, _, .dct h n hs => .dct (k _ _ n h).2 (k _ _ n h).1 (DGs.mono ht k hs)
theorem DGs.mono {S T : Addr → Prop} {H H' : Hp} (ht : Tup H H') (k : ∀ a o, ¬ S a → H a = some o → ¬ T a ∧ H' a = some o) : ∀ {vs : List V} {ds : List PyData}, DGs S H vs ds → DGs T H' vs ds
  | _, _, .nil => .nil
  | _, _, .cons h hs => .cons (DG.mono ht k h) (DGs.mono ht k hs)
end
theorem DGs.length {S : Addr → Prop} {H : Hp} : ∀ {vs : List V} {ds : List PyData}, DGs S H vs ds → vs.length = ds.length
  | _, _, .nil => rfl
  | _, _, .cons _ hs => congrArg (· + 1) hs.length
theorem DGs.append {S : Addr → Prop} {H : Hp} : ∀ {vs ws : List V} {ds es : List PyData}, DGs S H vs ds → DGs S H ws es → DGs S H (vs ++ ws) (ds ++ es)
  | _, _, _, _, .nil, k => k
  | _, _, _, _, .cons h hs, k => .cons h (hs.append k)
theorem DGs.get {S : Addr → Prop} {H : Hp} : ∀ {vs : List V} {ds : List PyData} {i : Nat} {v : V}, DGs S H vs ds → vs[i]? = some v → ∃ d, ds[i]? = some d ∧ DG S H v d
  | _, _, 0, _, .cons h _, e => ⟨_, rfl, by cases e; exact h⟩
  | _, _, i + 1, _, .cons _ hs, e => by
    obtain ⟨d, e2, h⟩ := hs.get (i := i) (by simpa using e)
    exact ⟨d, by simpa using e2, h⟩
  | _, _, 0, _, .nil, e => by cases e
  | _, _, i + 1, _, .nil, e => by cases e
theorem DGs.strs {S : Addr → Prop} {H : Hp} : ∀ zs : List Str, DGs S H (zs.map V.str) (zs.map PyData.str)
  | [] => .nil
  | z :: zs => .cons (.str z) (DGs.strs zs)
mutual
theorem DG.of {S : Addr → Prop} {H : Hp} : ∀ {v : V} {d : PyData}, DT H v d → DG S H v d
  | _, _, .non => .non
  | _, _, .bl b => .bl b
  | _, _, .int i => .int i
  | _, _, .str x => .str x
  | _, _, .tup h hs => .tup h (DGs.of hs)
theorem DGs.of {S : Addr → Prop} {H : Hp} : ∀ {vs : List V} {ds : List PyData}, DTs H vs ds → DGs S H vs ds
  | _, _, .nil => .nil
  | _, _, .cons h hs => .cons (DG.of h) (DGs.of hs)
end
theorem DG.same {S : Addr → Prop} {H H' : Hp} (e : Same H H') {v : V} {d : PyData} (h : DG S H v d) : DG S H' v d := h.mono (My.Same.tups e) fun a o n q => ⟨n, e a o q⟩
theorem DGs.same {S : Addr → Prop} {H H' : Hp} (e : Same H H') {vs : List V} {ds : List PyData} (h : DGs S H vs ds) : DGs S H' vs ds := h.mono (My.Same.tups e) fun a o n q => ⟨n, e a o q⟩
/-- new addresses are none of the data's -/
theorem DG.new {S : Addr → Prop} {H : Hp} {p : Addr} (hp : H p = none) {v : V} {d : PyData} (h : DG S H v d) : DG (fun a => S a ∨ a = p) H v d :=
  h.mono (fun _ _ e => e) fun a o n e => ⟨fun z => z.elim n (fun z => by rw [z, hp] at e; cases e), e⟩
/-- the built-in type of data -/
def tyD : PyData → String
  | .none => "NoneType"
  | .bool _ => "bool"
  | .int _ => "int"
  | .str _ => "str"
  | .tuple _ => "tuple"
  | .list _ => "list"
  | .dict _ => "dict"
theorem DG.ty {K : PySem.W.Frag} {S : Addr → Prop} {H : Hp} : ∀ {v : V} {d : PyData}, DG S H v d → TyX K H v (.type (tyD d))
  | _, _, .non => .base .non
  | _, _, .bl b => .base (.bl b)
  | _, _, .int i => .base (.int i)
  | _, _, .str x => .base (.str x)
  | _, _, .tup h _ => .base (.tup h)
  | _, _, .lst h _ _ => .base (.lst h)
  | _, _, .dct h _ _ => .base (.dK h)
def isStr : PyData → Bool | .str _ => true | _ => false
def isTup : PyData → Bool | .tuple _ => true | _ => false
def isBoo : PyData → Bool | .bool _ => true | _ => false
theorem kit_str : ∀ d : PyData, kitB (tyD d) "str" = some (isStr d)
  | .none => (by decide +kernel : kitB "NoneType" "str" = some false)
  | .bool _ => (by decide +kernel : kitB "bool" "str" = some false)
  | .int _ => (by decide +kernel : kitB "int" "str" = some false)
  | .str _ => (by decide +kernel : kitB "str" "str" = some true)
  | .tuple _ => (by decide +kernel : kitB "tuple" "str" = some false)
  | .list _ => (by decide +kernel : kitB "list" "str" = some false)
  | .dict _ => (by decide +kernel : kitB "dict" "str" = some false)
theorem kit_tup : ∀ d : PyData, kitB (tyD d) "tuple" = some (isTup d)
  | .none => (by decide +kernel : kitB "NoneType" "tuple" = some false)
  | .bool _ => (by decide +kernel : kitB "bool" "tuple" = some false)
  | .int _ => (by decide +kernel : kitB "int" "tuple" = some false)
  | .str _ => (by decide +kernel : kitB "str" "tuple" = some false)
  | .tuple _ => (by decide +kernel : kitB "tuple" "tuple" = some true)
  | .list _ => (by decide +kernel : kitB "list" "tuple" = some false)
  | .dict _ => (by decide +kernel : kitB "dict" "tuple" = some false)
theorem kit_boo : ∀ d : PyData, kitB (tyD d) "bool" = some (isBoo d)
  | .none => (by decide +kernel : kitB "NoneType" "bool" = some false)
  | .bool _ => (by decide +kernel : kitB "bool" "bool" = some true)
  | .int _ => (by decide +kernel : kitB "int" "bool" = some false)
  | .str _ => (by decide +kernel : kitB "str" "bool" = some false)
  | .tuple _ => (by decide +kernel : kitB "tuple" "bool" = some false)
  | .list _ => (by decide +kernel : kitB "list" "bool" = some false)
  | .dict _ => (by decide +kernel : kitB "dict" "bool" = some false)
/-! ### repr -/
/-- no dict, or a dict of scalars -/
def Flat : PyData → Bool
  | .none | .bool _ | .int _ | .str _ => true
  | .list _ | .tuple _ | .dict _ => false
def Rp (d : PyData) : Prop := d.hasDict = false ∨ ∃ kvs, d = .dict kvs ∧ (kvs.map (·.2)).all Flat = true
mutual
theorem DG.dp {K : PySem.W.Frag} {S : Addr → Prop} {H : Hp} : ∀ {v : V} {d : PyData}, DG S H v d → d.hasDict = false → Dp K H v d
  | _, _, .non, _ => .non
  | _, _, .bl b, _ => .bl b
  | _, _, .int i, _ => .int i
  | _, _, .str x, _ => .str x
  | _, _, .tup h hs, n => .tup (.inl (.inl h)) (DGs.dp hs n)
  | _, _, .lst h _ hs, n => .lst (.inl (.inl h)) (DGs.dp hs n)
  | _, _, .dct h _ hs, n => by cases n
theorem DGs.dp {K : PySem.W.Frag} {S : Addr → Prop} {H : Hp} : ∀ {vs : List V} {ds : List PyData}, DGs S H vs ds → PyData.hasDictAll ds = false → DpAll K H vs ds
  | _, _, .nil, _ => .nil
  | _, _, .cons h hs, n => by
    have n' : (_ || _) = false := n
    rw [Bool.or_eq_false_iff] at n'
    exact .cons (DG.dp h n'.1) (DGs.dp hs n'.2)
end
theorem key_reads {P : Program} {w : World} {h : Heap} (k : Key) (u : Value) (e : (mixKind P w).is k u = true) : Reads h u (kD k) [] := by
  rcases keyIs_shape e with ⟨i, t, rfl, rfl⟩ | ⟨x, t, rfl, rfl⟩
  · exact Reads.int i t
  · exact Reads.str x t
theorem flat_reads {S : Addr → Prop} {H : Hp} {h : Heap} : ∀ {v : V} {d : PyData} {u : Value}, DG S H v d → Flat d = true → RelV v u → Reads h u d []
  | _, _, _, .non, _, r => by cases r; exact Reads.none
  | _, _, _, .bl b, _, r => by cases r; exact Reads.bool b
  | _, _, _, .int i, _, r => by obtain ⟨t, rfl⟩ := r; exact Reads.int i t
  | _, _, _, .str x, _, r => by obtain ⟨t, rfl⟩ := r; exact Reads.str x t
  | _, _, _, .tup _ _, f, _ => by cases f
  | _, _, _, .lst _ _ _, f, _ => by cases f
  | _, _, _, .dct _ _ _, f, _ => by cases f
theorem pairs_read {S : Addr → Prop} {H : Hp} {h : Heap} : ∀ {kvs : List (Key × V)} {ds : List PyData} {us : List (Key × Value)}, KV kvs us → DGs S H (kvs.map (·.2)) ds → ds.all Flat = true → PyProof.V.PairsRead h kD us ((kvs.map fun p => kD p.1).zip ds) []
  | [], _, _, .nil, .nil, _ => .nil
  | (k, v) :: kvs, d :: ds, (k', u) :: us, .cons r t, .cons h1 hs, f => by
    obtain ⟨e, rv⟩ := r
    have e' : k = k' := e
    subst e'
    have f' : (Flat d && ds.all Flat) = true := f
    rw [Bool.and_eq_true] at f'
    exact PyProof.V.PairsRead.cons (as := []) (bs := []) (flat_reads h1 f'.1 rv) (pairs_read t hs f'.2)
section
variable {X : Cx} {pins : List (Addr × Obj)} {σ : L2.St} {H : Hp} {s : Shared} {S : Addr → Prop}
theorem DG.reads (I : Inv X pins σ H s) {v : V} {d : PyData} {u : Value} (h : DG S H v d) (rp : Rp d) (r : RelV v u) : ∃ as, Reads s.heap u d as ∧ (d.hasDict = true → sysModules ∉ as) := by
  rcases rp with n | ⟨kvs, rfl, f⟩
  · obtain ⟨as, q⟩ := Dp.reads I d v u (h.dp n) r
    exact ⟨as, q, fun z => by rw [n] at z; cases z⟩
  · cases h with
    | @dct a kvs ds h n hs =>
      cases r
      obtain ⟨_, hsys, us, hkv, hd⟩ := (show ObjOk X.prog X.w H s.heap a (.dK kvs) from I.hok a _ h)
      have hl : (kvs.map fun p => kD p.1).length = ds.length := by rw [List.length_map, ← hs.length, List.length_map]
      have ef : ((kvs.map fun p => kD p.1).zip ds).map (·.2) = ds := List.map_snd_zip (by omega)
      rw [ef] at f
      refine ⟨_, PyProof.V.reads_dictOf (fun k u e => key_reads k u e) hd (pairs_read hkv hs f), fun _ z => ?_⟩
      have z' := List.mem_singleton.mp z
      rw [z'] at hsys
      simp at hsys
theorem call_reprG (hG : X.A.guards = some []) (hu : X.A.units + 64 < cLine) : CallR X (.builtin "repr") (fun xs H Q => ∃ S x d, xs = [x] ∧ DG S H x d ∧ Rp d ∧ d.showable = true ∧ d.depth ≤ 60 ∧ d.shown.length ≤ sizeLine ∧ Q (.str d.shown) H) := by
  intro pins s σ H xs us Q I r h
  obtain ⟨S, x, d, rfl, hd, rp, hs, hp, hz, q⟩ := h
  obtain ⟨u, rfl, rx⟩ := vals1 r
  obtain ⟨as, rd, sy⟩ := hd.reads I rp rx
  have far : ∀ a, u = .ref a → wpAny (model X.prog X.w) X.A (call (.builtin "repr") [u]) (EP X pins σ Q) X.xe s := fun a e => by
    subst e
    exact repr_of_reads' rd hs sy hG (by omega) (fun _ _ e => e) (fun h' t tk hk => ⟨.str _, H, I.kept hk, ⟨_, rfl⟩, q⟩) hz
  cases hd with
  | non => cases rx; exact PySem.P.repr_of_none ⟨.str _, H, I.tok _, ⟨_, rfl⟩, q⟩
  | bl b => cases rx; exact PySem.P.repr_of_bool ⟨.str _, H, I.tok _, ⟨_, rfl⟩, q⟩
  | int i =>
    obtain ⟨t, rfl⟩ := rx
    exact PySem.P.repr_of_int (by simpa [PyData.showable] using hs) ⟨.str _, H, I.tok _, ⟨_, rfl⟩, q⟩
  | str z =>
    obtain ⟨t, rfl⟩ := rx
    exact PySem.P.repr_of_str ⟨.str _, H, I.tok _, ⟨_, rfl⟩, q⟩ hz
  | tup _ _ => cases rx; exact far _ rfl
  | lst _ _ _ => cases rx; exact far _ rfl
  | dct _ _ _ => cases rx; exact far _ rfl
end
section
variable {X : Cx} {e : Expr} {σ : L2.St} {H : Hp} {Q : VK} {pos p : Pos}
theorem e_reprG (hm : X.mg "repr" = none) (hG : X.A.guards = some []) (hu : X.A.units + 64 < cLine) (h : WE X e σ H fun x H1 => ∃ S d, DG S H1 x d ∧ Rp d ∧ d.showable = true ∧ d.depth ≤ 60 ∧ d.shown.length ≤ sizeLine ∧ Q (.str d.shown) H1) (hg : Gl X "repr" := by rfl)
    (he : starEach [e] X.env = (false, eval e X.env) :: starEach [] X.env := by rfl) (hpl : (backTo pos (starEach [] X.env)).any (·.1) = false := by rfl) : WE X (.Call (.Name "repr" p) [e] [] pos) σ H Q :=
  e_callB (call_reprG hG hu) hm PyProof.Rows.boot_repr (a_cons (WE.mono h fun x H1 ⟨S, d, h1, h2, h3, h4, h5, q⟩ => a_nil ⟨S, x, d, rfl, h1, h2, h3, h4, h5, q⟩) he) hg (by decide) (by decide) he hpl
end
end My

namespace My
open PySem PySem.Spec PyProof.Rows L2
/-! ### displays of constants -/
inductive LitK : List (Option Expr) → List Key → Prop
  | nil : LitK [] []
  | int (i : Int) {j} {p : Pos} {es : List (Option Expr)} {ks : List Key} (r : LitK es ks) : LitK (some (.Constant (.int i) j p) :: es) (.inl i :: ks)
  | str (x : Str) {j} {p : Pos} {es : List (Option Expr)} {ks : List Key} (r : LitK es ks) : LitK (some (.Constant (.str x) j p) :: es) (.inr x :: ks)
mutual
inductive Lit : Expr → PyData → Prop
  | non {j} {p : Pos} : Lit (.Constant .none j p) .none
  | bl (b : Bool) {j} {p : Pos} : Lit (.Constant (.bool b) j p) (.bool b)
  | int (i : Int) {j} {p : Pos} : Lit (.Constant (.int i) j p) (.int i)
  | str (x : Str) {j} {p : Pos} : Lit (.Constant (.str x) j p) (.str x)
  | neg (i : Int) {j} {p q : Pos} : Lit (.UnaryOp .USub (.Constant (.int i) j p) q) (.int (-i))
  | pow (a b : Int) {j j'} {p p' q : Pos} (h : CPow a b) : Lit (.BinOp (.Constant (.int a) j p) .Pow (.Constant (.int b) j' p') q) (.int (a ^ b.toNat))
  | tup {es : List Expr} {k} {p : Pos} {ds : List PyData} (h : Lits es ds) (l : ds.length ≤ sizeLine) : Lit (.Tuple es k p) (.tuple ds)
  | lst {es : List Expr} {p : Pos} {ds : List PyData} (h : Lits es ds) (l : ds.length ≤ sizeLine) : Lit (.List es p) (.list ds)
  | dct0 {p : Pos} : Lit (.Dict [] [] p) (.dict [])
  | dct {keys : List (Option Expr)} {values : List Expr} {p : Pos} {ks : List Key} {ds : List PyData} (h : Lits values ds) (k : LitK keys ks) (n : ks.Nodup) (l : keys.length ≤ 15) (h0 : keys ≠ []) (e : keys.length = values.length) : Lit (.Dict keys values p) (.dict ((ks.map kD).zip ds))
inductive Lits : List Expr → List PyData → Prop
  | nil : Lits [] []
  | cons {e : Expr} {es : List Expr} {d : PyData} {ds : List PyData} (h : Lit e d) (hs : Lits es ds) : Lits (e :: es) (d :: ds)
end
theorem Lit.star {e : Expr} {es : List Expr} {d : PyData} {env : Env} (h : Lit e d) : starEach (e :: es) env = (false, eval e env) :: starEach es env := by
  cases h <;> rfl
theorem Lits.length : ∀ {es : List Expr} {ds : List PyData}, Lits es ds → es.length = ds.length
  | _, _, .nil => rfl
  | _, _, .cons _ hs => congrArg (· + 1) hs.length
theorem LitK.length : ∀ {es : List (Option Expr)} {ks : List Key}, LitK es ks → es.length = ks.length
  | _, _, .nil => rfl
  | _, _, .int _ r => congrArg (· + 1) r.length
  | _, _, .str _ r => congrArg (· + 1) r.length
theorem LitK.all : ∀ {es : List (Option Expr)} {ks : List Key}, LitK es ks → es.all (·.isSome) = true
  | _, _, .nil => rfl
  | _, _, .int _ r => r.all
  | _, _, .str _ r => r.all
def trsOf (X : Cx) : List (Option Expr) → List Expr → List (TE × TE)
  | some k :: ks, v :: vs => (WE X k, WE X v) :: trsOf X ks vs
  | _, _ => []
theorem pps_of {X : Cx} {pos : Pos} : ∀ {keys : List (Option Expr)} {ks : List Key} {values : List Expr}, LitK keys ks → keys.length = values.length → PPs X pos keys values (trsOf X keys values)
  | _, _, [], .nil, _ => pps_nil
  | _, _, v :: vs, .int i r, e => pps_cons pE pE (pps_of r (by simpa using e))
  | _, _, v :: vs, .str i r, e => pps_cons pE pE (pps_of r (by simpa using e))
  | _, _, _ :: _, .nil, e => by cases e
  | _, _, [], .int _ _, e => by cases e
  | _, _, [], .str _ _, e => by cases e
theorem mergeK_new : ∀ (more kvs : List (Key × V)), (more.map (·.1)).Nodup → (∀ p ∈ more, valV kvs p.1 = none) → mergeK kvs more = kvs ++ more
  | [], kvs, _, _ => by show kvs = kvs ++ []; rw [List.append_nil]
  | p :: r, kvs, n, h => by
    have n' := List.nodup_cons.mp n
    have e := putK_new p.2 (h p List.mem_cons_self)
    show mergeK (putK kvs p.1 p.2) r = _
    rw [e, mergeK_new r _ n'.2 fun q hq => ?_]
    · rw [List.append_assoc]; rfl
    · have e2 := valV_snoc p.1 q.1 p.2 kvs (h p List.mem_cons_self)
      have ne : ¬ q.1 = p.1 := fun z => n'.1 (List.mem_map.mpr ⟨q, hq, z⟩)
      rw [e2, if_neg ne]
      exact h q (List.mem_cons_of_mem _ hq)
theorem DG.free {S : Addr → Prop} {H : Hp} {p : Addr} {o : HO} (hp : H p = some (.dK [])) {v : V} {d : PyData} (h : DG (fun a => S a ∨ a = p) H v d) : DG S (upd H p o) v d :=
  h.mono (fun b xs e => by rw [upd_ne (ne_of e hp (fun z => by cases z))]; exact e) fun a o n e => ⟨fun z => n (.inl z), by rw [upd_ne (fun z => n (.inr z))]; exact e⟩
theorem DGs.free {S : Addr → Prop} {H : Hp} {p : Addr} {o : HO} (hp : H p = some (.dK [])) {vs : List V} {ds : List PyData} (h : DGs (fun a => S a ∨ a = p) H vs ds) : DGs S (upd H p o) vs ds :=
  h.mono (fun b xs e => by rw [upd_ne (ne_of e hp (fun z => by cases z))]; exact e) fun a o n e => ⟨fun z => n (.inl z), by rw [upd_ne (fun z => n (.inr z))]; exact e⟩
section
variable {X : Cx}
theorem in_same {S : Addr → Prop} {H H' : Hp} (e : Same H H') (h : ∀ a, S a → H a ≠ none) : ∀ a, S a → H' a ≠ none := fun a s z => by
  cases q : H a with
  | none => exact h a s q
  | some o => rw [e a o q] at z; cases z
mutual
theorem e_lit : ∀ {e : Expr} {d : PyData}, Lit e d → ∀ {S : Addr → Prop} {σ : L2.St} {H : Hp} {Q : VK}, (∀ a, S a → H a ≠ none) → (∀ v H', Same H H' → DG S H' v d → Q v H') → WE X e σ H Q
  | _, _, .non, _, _, _, _, _, q => e_non (q _ _ (Same.refl _) .non)
  | _, _, .bl b, _, _, _, _, _, q => e_bl (q _ _ (Same.refl _) (.bl b))
  | _, _, .int i, _, _, _, _, _, q => e_int (q _ _ (Same.refl _) (.int i))
  | _, _, .str x, _, _, _, _, _, q => e_str (q _ _ (Same.refl _) (.str x))
  | _, _, .neg i, _, _, _, _, _, q => e_un un_neg (e_int ⟨i, rfl, q _ _ (Same.refl _) (.int (-i))⟩)
  | _, _, .pow a b h, _, _, _, _, _, q => e_op op_pow (e_int (e_int ⟨a, b, rfl, rfl, h, q _ _ (Same.refl _) (.int _)⟩))
  | _, _, .tup h l, _, _, _, _, hS, q => e_tup (a_lit h hS fun vs H' s hs => ⟨by rw [hs.length]; exact l, fun p hp => q _ _ (s.trans (same_new hp)) (.tup upd_same (hs.same (same_new hp)))⟩)
  | _, _, .lst h l, S, _, _, _, hS, q => e_lst (a_lit h hS fun vs H' s hs => ⟨by rw [hs.length]; exact l, fun p hp => q _ _ (s.trans (same_new hp)) (.lst upd_same (fun z => in_same s hS p z hp) (hs.same (same_new hp)))⟩)
  | _, _, .dct0, S, _, H, _, hS, q => toE pe_dnewK fun p hp => q _ _ (same_new hp) (DG.dct (kvs := []) (ds := []) upd_same (fun z => hS p z hp) .nil)
  | _, _, .dct (ks := ks) (ds := ds) h k n l h0 e, S, _, H, _, hS, q => toE (pe_disp (pps_of k e) k.all e h0 l) fun p hp => p_lit h k e (S := fun a => S a ∨ a = p) (fun a z => z.elim (fun z w => by
      by_cases ea : a = p
      · exact hS a z (ea ▸ hp)
      · rw [upd_ne ea] at w; exact hS a z w) (fun z w => by rw [z, upd_same] at w; cases w)) fun vs H2 s hs hl => ⟨s _ _ upd_same, ks.zip vs, rfl, by rw [List.length_zip, ← hl, Nat.min_self, ← k.length]; exact l, by
        have ek : ((ks.zip vs).map (·.1)) = ks := List.map_fst_zip (by omega)
        have ev : ((ks.zip vs).map (·.2)) = vs := List.map_snd_zip (by omega)
        rw [mergeK_new _ [] (by rw [ek]; exact n) (fun _ _ => rfl), List.nil_append]
        refine q _ _ (same_mut ((same_new hp).trans s) hp) ?_
        have ed : ((ks.map kD).zip ds) = (((ks.zip vs).map fun p => kD p.1).zip ds) := by
          have : (ks.zip vs).map (fun p => kD p.1) = ((ks.zip vs).map (·.1)).map kD := by rw [List.map_map]; rfl
          rw [this, ek]
        rw [ed]
        refine DG.dct (kvs := ks.zip vs) upd_same (fun z => hS p z hp) ?_
        rw [ev]
        exact hs.free (s _ _ upd_same)⟩
theorem a_lit : ∀ {es : List Expr} {ds : List PyData}, Lits es ds → ∀ {S : Addr → Prop} {σ : L2.St} {H : Hp} {U : List V → Hp → Prop}, (∀ a, S a → H a ≠ none) → (∀ vs H', Same H H' → DGs S H' vs ds → U vs H') → WA X es σ H U
  | _, _, .nil, _, _, _, _, _, q => a_nil (q _ _ (Same.refl _) .nil)
  | _, _, .cons h hs, _, _, _, _, hS, q => a_cons (e_lit h hS fun v H1 s1 h1 => a_lit hs (in_same s1 hS) fun vs H2 s2 h2 => q _ _ (s1.trans s2) (.cons (h1.same s2) h2)) h.star
theorem p_lit : ∀ {values : List Expr} {ds : List PyData}, Lits values ds → ∀ {keys : List (Option Expr)} {ks : List Key}, LitK keys ks → keys.length = values.length → ∀ {S : Addr → Prop} {σ : L2.St} {H : Hp} {Q : List (V × V) → Hp → Prop}, (∀ a, S a → H a ≠ none) →
    (∀ vs H', Same H H' → DGs S H' vs ds → ks.length = vs.length → Q ((ks.zip vs).map fun kv => (kV kv.1, kv.2)) H') → tPairs (trsOf X keys values) σ H Q
  | _, _, .nil, _, _, .nil, _, _, _, _, _, _, q => q [] _ (Same.refl _) .nil rfl
  | _, _, .cons h hs, _, _, .int i r, e, _, _, _, _, hS, q => e_int (e_lit h hS fun v H1 s1 h1 => p_lit hs r (by simpa using e) (in_same s1 hS) fun vs H2 s2 h2 l => q (v :: vs) _ (s1.trans s2) (.cons (h1.same s2) h2) (by simpa using l))
  | _, _, .cons h hs, _, _, .str i r, e, _, _, _, _, hS, q => e_str (e_lit h hS fun v H1 s1 h1 => p_lit hs r (by simpa using e) (in_same s1 hS) fun vs H2 s2 h2 l => q (v :: vs) _ (s1.trans s2) (.cons (h1.same s2) h2) (by simpa using l))
  | _, _, .nil, _, _, .int _ _, e, _, _, _, _, _, _ => by cases e
  | _, _, .nil, _, _, .str _ _, e, _, _, _, _, _, _ => by cases e
  | _, _, .cons _ _, _, _, .nil, e, _, _, _, _, _, _ => by cases e
end
end
end My

namespace My
open PySem PySem.Spec PyProof.Rows L2
/-! ### any data == a text -/
section
open PySem.SeqAt
theorem dict_eq_declines_str (l : Addr) (es : Array DictEntry) (n : Nat) (dd : Option Addr) (sl : Array (Option Value)) (b : Str) (u : Tok) :
    Meets (Builtin.«dict.__eq__» ⟨[.ref l, .str b u], []⟩) (fun _ R s => s.heap.get? l = some { cls := .type "dict", dict := dd, data := .dict es n, slots := sl } ∧ R (.ok (.ret .notImplemented)) s) :=
  .of_wp fun prog w A R s h => by obtain ⟨hp, g, d, tk, os⟩ := s; obtain ⟨hl, h⟩ := h; have f1 := F.sub_str_dict; wp_walk using wpAny_loadPart' hl; exact ⟨_, rfl, h⟩
theorem dict_ne_declines_str (l : Addr) (es : Array DictEntry) (n : Nat) (dd : Option Addr) (sl : Array (Option Value)) (b : Str) (u : Tok) :
    Meets (Builtin.«dict.__ne__» ⟨[.ref l, .str b u], []⟩) (fun _ R s => s.heap.get? l = some { cls := .type "dict", dict := dd, data := .dict es n, slots := sl } ∧ R (.ok (.ret .notImplemented)) s) :=
  .of_wp fun prog w A R s h => by obtain ⟨hp, g, d, tk, os⟩ := s; obtain ⟨hl, h⟩ := h; have f1 := F.sub_str_dict; wp_walk using wpAny_loadPart' hl; exact ⟨_, rfl, h⟩
theorem str_eq_declines_dict (b : Str) (u : Tok) (l : Addr) (c : Value) (es : Array DictEntry) (n : Nat) (dd : Option Addr) (sl : Array (Option Value)) :
    Meets (Builtin.«str.__eq__» ⟨[.str b u, .ref l], []⟩) (fun _ R s => s.heap.get? l = some { cls := c, dict := dd, data := .dict es n, slots := sl } ∧ R (.ok (.ret .notImplemented)) s) :=
  .of_wp fun prog w A R s h => by obtain ⟨hp, g, d, tk, os⟩ := s; obtain ⟨hl, h⟩ := h; wp_walk using wpAny_loadPart' hl, wpAny_load hl; exact ⟨_, rfl, h⟩
theorem str_ne_declines_dict (b : Str) (u : Tok) (l : Addr) (c : Value) (es : Array DictEntry) (n : Nat) (dd : Option Addr) (sl : Array (Option Value)) :
    Meets (Builtin.«str.__ne__» ⟨[.str b u, .ref l], []⟩) (fun _ R s => s.heap.get? l = some { cls := c, dict := dd, data := .dict es n, slots := sl } ∧ R (.ok (.ret .notImplemented)) s) :=
  .of_wp fun prog w A R s h => by obtain ⟨hp, g, d, tk, os⟩ := s; obtain ⟨hl, h⟩ := h; wp_walk using wpAny_loadPart' hl, wpAny_load hl; exact ⟨_, rfl, h⟩
variable {A : Around} {s : Shared}
theorem RcAt_dict_str {l : Addr} {ob : Obj} {es : Array DictEntry} {n : Nat} (b : Str) (u : Tok) (ho : s.heap.get? l = some ob) (hc : ob.cls = .type "dict") (hd : ob.data = .dict es n) (hu : A.units < cLine) : RcAt A s (.ref l) (.str b u) false := fun prog w E Q h => by
  obtain ⟨cls, dd, data, sl⟩ := ob
  simp only at hc hd
  subst hc hd
  exact rc_eq_decline_or (k := false) ⟨_, ho, rfl⟩ (typeIs_str s b u) (by decide) F.sub_str_dict F.slot_dict_eq F.slot_str_eq_refl
    (fun _ hq => call_meets F.slot_dict_eq ⟨_, ho, rfl⟩ F.entry_dict_eq (F.args_dict_eq_2 _ _) (dict_eq_declines_str l es n dd sl b u) ⟨ho, hq⟩)
    (fun _ hq => call_meets F.slot_str_eq_refl (typeIs_str s b u) F.entry_str_eq (F.args_str_eq_2 _ _) (str_eq_declines_dict b u l (.type "dict") es n dd sl) ⟨ho, hq⟩)
    (fun _ hq => wpAny_of_eq (rfl : isSame (.ref l) (.str b u) = pure false) hq) (.inr hu) h
theorem RcNeAt_dict_str {l : Addr} {ob : Obj} {es : Array DictEntry} {n : Nat} (b : Str) (u : Tok) (ho : s.heap.get? l = some ob) (hc : ob.cls = .type "dict") (hd : ob.data = .dict es n) (hu : A.units < cLine) : RcNeAt A s (.ref l) (.str b u) true := fun prog w E Q h => by
  obtain ⟨cls, dd, data, sl⟩ := ob
  simp only at hc hd
  subst hc hd
  exact rc_ne_decline_or (k := false) ⟨_, ho, rfl⟩ (typeIs_str s b u) (by decide) F.sub_str_dict F.slot_dict_ne F.slot_str_ne_refl
    (fun _ hq => call_meets F.slot_dict_ne ⟨_, ho, rfl⟩ F.entry_dict_ne (F.args_dict_ne_2 _ _) (dict_ne_declines_str l es n dd sl b u) ⟨ho, hq⟩)
    (fun _ hq => call_meets F.slot_str_ne_refl (typeIs_str s b u) F.entry_str_ne (F.args_str_ne_2 _ _) (str_ne_declines_dict b u l (.type "dict") es n dd sl) ⟨ho, hq⟩)
    (fun _ hq => wpAny_of_eq (rfl : isSame (.ref l) (.str b u) = pure false) hq) (.inr hu) h
end
def eqS : PyData → Str → Bool | .str y, z => decide (y = z) | _, _ => false
section
variable {X : Cx}
theorem op_eqS (hu : X.A.units + 64 < cLine) : OpR X (compareOp .Eq) (fun x y H Q => ∃ S d z, DG S H x d ∧ y = .str z ∧ Q (.bl (eqS d z)) H) := by
  intro pins s σ H x y v u Q I rx ry h
  obtain ⟨S, d, z, hd, rfl, q⟩ := h
  have sc : scal x (.str z) = true → decide (x = V.str z) = eqS d z → wpAny (model X.prog X.w) X.A (compareOp .Eq v u) (EP X pins σ Q) X.xe s := fun h1 h2 => op_eq pins s σ H x (.str z) v u Q I rx ry ⟨h1, by rw [h2]; exact q⟩
  obtain ⟨t, rfl⟩ := ry
  have fin : PySem.SeqAt.RcAt X.A s v (.str z t) false → eqS d z = false → wpAny (model X.prog X.w) X.A (compareOp .Eq v (.str z t)) (EP X pins σ Q) X.xe s := fun h1 h2 => h1 X.prog X.w X.xe _ ⟨.bl false, H, I, rfl, by rw [← h2]; exact q⟩
  have hu1 : X.A.units < cLine := by omega
  cases hd with
  | non => exact sc rfl (decide_eq_false nofun)
  | bl b => exact sc rfl (decide_eq_false nofun)
  | int i => exact sc rfl (decide_eq_false nofun)
  | str x =>
    refine sc rfl ?_
    apply Bool.eq_iff_iff.mpr
    show _ ↔ decide (x = z) = true
    rw [decide_eq_true_eq, decide_eq_true_eq]
    exact ⟨fun e => by injection e, fun e => by rw [e]⟩
  | tup h _ =>
    cases rx
    obtain ⟨its, rv, ht, _⟩ := I.tuple (.inl (.inl h))
    exact fin (PySem.SeqAt.RcAt.tuple_str z t ht hu1) rfl
  | lst h _ _ =>
    cases rx
    obtain ⟨its, rv, ht, _⟩ := I.list (.inl (.inl h))
    exact fin (PySem.SeqAt.RcAt.list_str z t ht.isList hu1) rfl
  | dct h _ _ =>
    cases rx
    obtain ⟨_, _, us, _, ob, es, ep, ho, hx, hdt, _⟩ := (show ObjOk X.prog X.w H s.heap _ (.dK _) from I.hok _ _ h)
    exact fin (RcAt_dict_str z t ho hx.1 hdt hu1) rfl
theorem op_neS (hu : X.A.units + 64 < cLine) : OpR X (compareOp .NotEq) (fun x y H Q => ∃ S d z, DG S H x d ∧ y = .str z ∧ Q (.bl (!eqS d z)) H) := by
  intro pins s σ H x y v u Q I rx ry h
  obtain ⟨S, d, z, hd, rfl, q⟩ := h
  have sc : scal x (.str z) = true → decide (x = V.str z) = eqS d z → wpAny (model X.prog X.w) X.A (compareOp .NotEq v u) (EP X pins σ Q) X.xe s := fun h1 h2 => op_ne pins s σ H x (.str z) v u Q I rx ry ⟨h1, by rw [h2]; exact q⟩
  obtain ⟨t, rfl⟩ := ry
  have fin : PySem.SeqAt.RcNeAt X.A s v (.str z t) true → eqS d z = false → wpAny (model X.prog X.w) X.A (compareOp .NotEq v (.str z t)) (EP X pins σ Q) X.xe s := fun h1 h2 => h1 X.prog X.w X.xe _ ⟨.bl true, H, I, rfl, by rw [h2] at q; exact q⟩
  have hu1 : X.A.units < cLine := by omega
  cases hd with
  | non => exact sc rfl (decide_eq_false nofun)
  | bl b => exact sc rfl (decide_eq_false nofun)
  | int i => exact sc rfl (decide_eq_false nofun)
  | str x =>
    refine sc rfl ?_
    apply Bool.eq_iff_iff.mpr
    show _ ↔ decide (x = z) = true
    rw [decide_eq_true_eq, decide_eq_true_eq]
    exact ⟨fun e => by injection e, fun e => by rw [e]⟩
  | tup h _ =>
    cases rx
    obtain ⟨its, rv, ht, _⟩ := I.tuple (.inl (.inl h))
    exact fin (PySem.SeqAt.RcNeAt.tuple_str z t ht hu1) rfl
  | lst h _ _ =>
    cases rx
    obtain ⟨its, rv, ht, _⟩ := I.list (.inl (.inl h))
    exact fin (PySem.SeqAt.RcNeAt.list_str z t ht.isList hu1) rfl
  | dct h _ _ =>
    cases rx
    obtain ⟨_, _, us, _, ob, es, ep, ho, hx, hdt, _⟩ := (show ObjOk X.prog X.w H s.heap _ (.dK _) from I.hok _ _ h)
    exact fin (RcNeAt_dict_str z t ho hx.1 hdt hu1) rfl
end
end My

namespace My
open PySem PySem.Spec PyProof.Rows L2
/-! ### repr of data of any depth, with dicts in it -/
theorem keys_shown {h : Heap} (kvs : List (Key × V)) {ds : List PyData} (hl : kvs.length = ds.length) : (((kvs.map fun p => kD p.1).zip ds).map (·.1)) = kvs.map fun p => kD p.1 := List.map_fst_zip (by rw [List.length_map]; omega)
theorem vals_shown (kvs : List (Key × V)) {ds : List PyData} (hl : kvs.length = ds.length) : (((kvs.map fun p => kD p.1).zip ds).map (·.2)) = ds := List.map_snd_zip (by rw [List.length_map]; omega)
theorem readsAll_keys {P : Program} {w : World} {h : Heap} : ∀ {es : List DictEntry} {us : List (Key × Value)}, Pairs (mixKind P w) es us → ReadsAll h (es.map (·.key)) (us.map fun p => kD p.1) []
  | _, _, .nil => .nil
  | _, _, .cons hk hv hp => ReadsAll.cons (as := []) (key_reads _ _ hk) (readsAll_keys hp)
theorem keys_eq : ∀ {kvs : List (Key × V)} {us : List (Key × Value)}, KV kvs us → (us.map fun p => kD p.1) = kvs.map fun p => kD p.1
  | [], _, .nil => rfl
  | (k, v) :: kvs, (k', u) :: us, .cons r t => by
    have e : k = k' := r.1
    rw [List.map_cons, List.map_cons, keys_eq t, e]
theorem vals_of_pairs {P : Program} {w : World} : ∀ {kvs : List (Key × V)} {us : List (Key × Value)} {es : List DictEntry}, KV kvs us → Pairs (mixKind P w) es us → Vals (kvs.map (·.2)) (es.map (·.val))
  | _, _, _, .nil, .nil => .nil
  | _, _, _, .cons r t, .cons hk hv hp => .cons (by show RelV _ (DictEntry.val _); rw [hv]; exact r.2) (vals_of_pairs t hp)
section
variable {X : Cx} {pins : List (Addr × Obj)} {σ : L2.St} {H : Hp} {s : Shared} {S : Addr → Prop}
abbrev Sh (X : Cx) (h : Heap) (d : Nat) (bs : List Addr) (u : Value) (t : Str) : Prop := ReadAtMost h d bs ∧ ReprK X.prog X.w bs h d u t
mutual
theorem DG.shows (I : Inv X pins σ H s) : ∀ {v : V} {d : PyData} {u : Value}, DG S H v d → RelV v u → d.showable = true → d.shown.length ≤ sizeLine → ∃ as bs, Reads s.heap u d as ∧ Sh X s.heap d.depth bs u d.shown
  | _, _, _, .non, r, _, _ => by
    cases r
    exact ⟨_, [], Reads.none, fun _ h => (nomatch h), by simp only [PyData.shown]; exact .of_is ReprIs.none _ _ _⟩
  | _, _, _, .bl b, r, _, _ => by
    cases r
    exact ⟨_, [], Reads.bool b, fun _ h => (nomatch h), by simp only [PyData.shown]; exact .of_is (ReprIs.bool b) _ _ _⟩
  | _, _, _, .int i, r, hs, _ => by
    obtain ⟨t, rfl⟩ := r
    exact ⟨_, [], Reads.int i t, fun _ h => (nomatch h), by simp only [PyData.shown]; exact .of_is (ReprIs.int t (by simpa [PyData.showable] using hs)) _ _ _⟩
  | _, _, _, .str x, r, _, hz => by
    obtain ⟨t, rfl⟩ := r
    exact ⟨_, [], Reads.str x t, fun _ h => (nomatch h), by simp only [PyData.shown]; exact .of_is (ReprIs.str x t (by simpa only [PyData.shown] using hz)) _ _ _⟩
  | _, _, _, .tup (a := a) (ds := ds) h hds, r, hs, hz => by
    cases r
    have hz' : (tupleText (PyData.shownAll ds)).length ≤ sizeLine := by simpa only [PyData.shown] using hz
    obtain ⟨its, rv, ⟨o, ho, hc, n, hd⟩, _⟩ := I.tuple (.inl (.inl h))
    obtain ⟨as, bs, q1, hb, hk⟩ := DGs.shows I hds rv (by simpa [PyData.showable] using hs) fun t ht => Nat.le_trans (tupleText_mem_le ht) hz'
    have rr : Reads s.heap (.ref a) (.tuple ds) _ := .tuple ho hc hd (by simpa using q1)
    have hna : a ∉ bs := not_mem_of_deeper rr (by simp only [PyData.depth]; omega) hb
    refine ⟨_, a :: bs, rr, ReadAtMost.cons rr (by simp only [PyData.depth]; omega) hb, ?_⟩
    simp only [PyData.depth, PyData.shown]
    exact ReprK.tuple ho hc hd hna (by simpa using hk)
  | _, _, _, .lst (a := a) (ds := ds) h _ hds, r, hs, hz => by
    cases r
    have hz' : (listText (PyData.shownAll ds)).length ≤ sizeLine := by simpa only [PyData.shown] using hz
    obtain ⟨its, rv, ⟨o, n, ho, hc, _, hd⟩, _⟩ := I.list (.inl (.inl h))
    obtain ⟨as, bs, q1, hb, hk⟩ := DGs.shows I hds rv (by simpa [PyData.showable] using hs) fun t ht => Nat.le_trans (listText_mem_le ht) hz'
    have rr : Reads s.heap (.ref a) (.list ds) _ := .list ho hc hd (by simpa using q1)
    have hna : a ∉ bs := not_mem_of_deeper rr (by simp only [PyData.depth]; omega) hb
    refine ⟨_, a :: bs, rr, ReadAtMost.cons rr (by simp only [PyData.depth]; omega) hb, ?_⟩
    simp only [PyData.depth, PyData.shown]
    cases its with
    | nil =>
      cases q1
      simp only [PyData.shownAll, listText_nil]
      exact ReprK.listEmpty ho hc hd
    | cons x l => exact ReprK.list ho hc hd hna (by simpa using hk.length_eq) (fun i y e => hk.item i y (by simpa using e))
  | _, _, _, .dct (a := a) (kvs := kvs) (ds := ds) h _ hds, r, hs, hz => by
    cases r
    have hl : kvs.length = ds.length := by have := hds.length; rwa [List.length_map] at this
    obtain ⟨_, hsys, us, hkv, o, es, ep, ho, hx, hdat, _, hp, _⟩ := (show ObjOk X.prog X.w H s.heap a (.dK kvs) from I.hok a _ h)
    have ek := keys_shown (h := s.heap) kvs hl
    have ev := vals_shown kvs hl
    generalize hD : (kvs.map fun p => kD p.1).zip ds = D at hs hz ek ev ⊢
    have hz' : (dictText (PyData.shownKv D)).length ≤ sizeLine := by simpa only [PyData.shown] using hz
    obtain ⟨hs1, hs2⟩ := PyData.showableKv_split D (by simpa [PyData.showable] using hs)
    have k1 : ReadsAll s.heap (es.toList.map (·.key)) (D.map (·.1)) [] := by
      rw [ek, ← keys_eq hkv]
      exact readsAll_keys hp
    obtain ⟨b1, hb1, kk1⟩ := ReprAllK.of_readsAll (prog := X.prog) (w := X.w) k1 hs1 (fun _ hm => (nomatch hm)) (fun t ht => let ⟨p, hp, hl⟩ := PyData.shownKv_key_le D t ht; Nat.le_trans hl (Nat.le_trans (dictText_mem_le hp) hz'))
    obtain ⟨as2, b2, q2, hb2, kk2⟩ := DGs.shows I hds (vals_of_pairs hkv hp) (by rw [← ev]; exact hs2) (fun t ht => by
      rw [← ev] at ht
      obtain ⟨p, hp, hl⟩ := PyData.shownKv_val_le D t ht
      exact Nat.le_trans hl (Nat.le_trans (dictText_mem_le hp) hz'))
    rw [← ev] at q2 hb2 kk2
    have rr : Reads s.heap (.ref a) (.dict D) _ := .dict ho hx.1 hdat k1 q2
    have hb : ReadAtMost s.heap (PyData.depthKv D) (b1 ++ b2) := (hb1.mono (PyData.depthAll_keys_le D)).append (hb2.mono (PyData.depthAll_vals_le D))
    have hna : a ∉ b1 ++ b2 := not_mem_of_deeper rr (by simp only [PyData.depth]; omega) hb
    refine ⟨_, a :: (b1 ++ b2), rr, ReadAtMost.cons rr (by simp only [PyData.depth]; omega) hb, ?_⟩
    simp only [PyData.depth, PyData.shown, PyData.shownKv_eq]
    exact ReprK.dict ho hx.1 hdat hsys hna (ReprEntriesK.of_two es.toList _ _ (kk1.more_le (fun b hb => List.mem_append_left _ hb) (PyData.depthAll_keys_le D)) (kk2.more_le (fun b hb => List.mem_append_right _ hb) (PyData.depthAll_vals_le D)))
theorem DGs.shows (I : Inv X pins σ H s) : ∀ {vs : List V} {ds : List PyData} {us : List Value}, DGs S H vs ds → Vals vs us → PyData.showableAll ds = true → (∀ t ∈ PyData.shownAll ds, t.length ≤ sizeLine) →
    ∃ as bs, ReadsAll s.heap us ds as ∧ ReadAtMost s.heap (PyData.depthAll ds) bs ∧ ReprAllK X.prog X.w bs s.heap (PyData.depthAll ds) us (PyData.shownAll ds)
  | _, _, _, .nil, .nil, _, _ => ⟨_, [], ReadsAll.nil, fun _ h => (nomatch h), by simp only [PyData.shownAll]; exact .nil⟩
  | _, _, _, .cons (d := d) (ds := ds) h hds, .cons r rs, hs, hz => by
    have hs' : d.showable = true ∧ PyData.showableAll ds = true := by simpa [PyData.showableAll] using hs
    obtain ⟨a1, b1, q1, hb1, k1⟩ := DG.shows I h r hs'.1 (hz _ (by simp only [PyData.shownAll]; exact List.mem_cons_self ..))
    obtain ⟨a2, b2, q2, hb2, k2⟩ := DGs.shows I hds rs hs'.2 (fun t ht => hz t (by simp only [PyData.shownAll]; exact List.mem_cons_of_mem _ ht))
    refine ⟨_, b1 ++ b2, ReadsAll.cons q1 q2, (hb1.mono ?_).append (hb2.mono ?_), ?_⟩
    · simp only [PyData.depthAll]; exact Nat.le_max_left _ _
    · simp only [PyData.depthAll]; exact Nat.le_max_right _ _
    · simp only [PyData.depthAll, PyData.shownAll]
      exact .cons ((k1.more fun b hb => List.mem_append_left _ hb).level_le (Nat.le_max_left _ _)) (k2.more_le (fun b hb => List.mem_append_right _ hb) (Nat.le_max_right _ _))
end
/-- repr of any data -/
theorem call_reprA (hG : X.A.guards = some []) (hu : X.A.units + 64 < cLine) : CallR X (.builtin "repr") (fun xs H Q => ∃ S x d, xs = [x] ∧ DG S H x d ∧ d.showable = true ∧ d.depth ≤ 60 ∧ d.shown.length ≤ sizeLine ∧ Q (.str d.shown) H) := by
  intro pins s σ H xs us Q I r h
  obtain ⟨S, x, d, rfl, hd, hs, hp, hz, q⟩ := h
  obtain ⟨u, rfl, rx⟩ := vals1 r
  have fin : ∀ {h' : Heap} {t : Tok} {tk : Nat}, (∀ b o, s.heap.get? b = some o → h'.get? b = some o) → EP X pins σ Q (.str d.shown t) { s with heap := h', toks := tk } := fun {h' t tk} hk => ⟨.str _, H, I.kept hk, ⟨_, rfl⟩, q⟩
  have clear : ∀ b ∈ ([] : List Addr), Clear ([] : List Code) b := fun b z => nomatch z
  cases hd with
  | non => cases rx; exact PySem.P.repr_of_none ⟨.str _, H, I.tok _, ⟨_, rfl⟩, q⟩
  | bl b => cases rx; exact PySem.P.repr_of_bool ⟨.str _, H, I.tok _, ⟨_, rfl⟩, q⟩
  | int i =>
    obtain ⟨t, rfl⟩ := rx
    exact PySem.P.repr_of_int (by simpa [PyData.showable] using hs) ⟨.str _, H, I.tok _, ⟨_, rfl⟩, q⟩
  | str z =>
    obtain ⟨t, rfl⟩ := rx
    exact PySem.P.repr_of_str ⟨.str _, H, I.tok _, ⟨_, rfl⟩, q⟩ hz
  | @tup a xs ds h hds =>
    cases rx
    have hz' : (tupleText (PyData.shownAll ds)).length ≤ sizeLine := by simpa only [PyData.shown] using hz
    obtain ⟨its, rv, ⟨o, ho, hc, n, hd⟩, _⟩ := I.tuple (.inl (.inl h))
    obtain ⟨as, bs, q1, hb, hk⟩ := DGs.shows I hds rv (by simpa [PyData.showable] using hs) fun t ht => Nat.le_trans (tupleText_mem_le ht) hz'
    have rr : Reads s.heap (.ref a) (.tuple ds) _ := .tuple ho hc hd (by simpa using q1)
    have hna : a ∉ bs := not_mem_of_deeper rr (by simp only [PyData.depth]; omega) hb
    have hp' : PyData.depthAll ds + 1 ≤ 60 := hp
    refine call_repr_slot (by omega) ⟨o, ho, hc⟩ F.slot_tuple_repr (call_tuple_reprK (h₀ := s.heap) ho hc hd hna (by simpa using hk) (A := X.A.in1) hG (fun b _ => Clear.nil b) (by show X.A.units + 1 + _ < cLine; omega) (fun _ _ e => e) (fun h' u tk hk2 => ⟨_, _, rfl, ?_⟩) hz')
    exact fin hk2
  | @lst a xs ds h nS hds =>
    cases rx
    have hz' : (listText (PyData.shownAll ds)).length ≤ sizeLine := by simpa only [PyData.shown] using hz
    obtain ⟨its, rv, ⟨o, n, ho, hc, _, hd⟩, _⟩ := I.list (.inl (.inl h))
    obtain ⟨as, bs, q1, hb, hk⟩ := DGs.shows I hds rv (by simpa [PyData.showable] using hs) fun t ht => Nat.le_trans (listText_mem_le ht) hz'
    have rr : Reads s.heap (.ref a) (.list ds) _ := .list ho hc hd (by simpa using q1)
    have hna : a ∉ bs := not_mem_of_deeper rr (by simp only [PyData.depth]; omega) hb
    have hp' : PyData.depthAll ds + 1 ≤ 60 := hp
    cases its with
    | nil =>
      cases q1
      refine call_repr_slot (by omega) ⟨o, ho, hc⟩ F.slot_list_repr.toG (call_list_repr_empty ⟨o, ho, hc⟩ ho hd ⟨_, _, rfl, ?_⟩)
      have e : (PyData.list []).shown = "[]" := by simp only [PyData.shown, PyData.shownAll, listText_nil]
      rw [e] at q
      exact ⟨.str _, H, I.tok _, ⟨_, rfl⟩, q⟩
    | cons x l =>
      refine call_repr_slot (by omega) ⟨o, ho, hc⟩ F.slot_list_repr.toG (call_list_reprK (h₀ := s.heap) ho hc hd hna (by simpa using hk.length_eq) (fun i y e => hk.item i y (by simpa using e)) (A := X.A.in1) hG (fun b _ => Clear.nil b) (by show X.A.units + 1 + _ < cLine; omega) (fun _ _ e => e) (fun h' u tk hk2 => ⟨_, _, rfl, ?_⟩) hz')
      exact fin hk2
  | @dct a kvs ds h nS hds =>
    cases rx
    have hl : kvs.length = ds.length := by have := hds.length; rwa [List.length_map] at this
    obtain ⟨_, hsys, us, hkv, o, es, ep, ho, hx, hdat, _, hpp, _⟩ := (show ObjOk X.prog X.w H s.heap a (.dK kvs) from I.hok a _ h)
    have ek := keys_shown (h := s.heap) kvs hl
    have ev := vals_shown kvs hl
    generalize hD : (kvs.map fun p => kD p.1).zip ds = D at hs hz hp q ek ev fin ⊢
    have hz' : (dictText (PyData.shownKv D)).length ≤ sizeLine := by simpa only [PyData.shown] using hz
    obtain ⟨hs1, hs2⟩ := PyData.showableKv_split D (by simpa [PyData.showable] using hs)
    have k1 : ReadsAll s.heap (es.toList.map (·.key)) (D.map (·.1)) [] := by
      rw [ek, ← keys_eq hkv]
      exact readsAll_keys hpp
    obtain ⟨b1, hb1, kk1⟩ := ReprAllK.of_readsAll (prog := X.prog) (w := X.w) k1 hs1 (fun _ hm => (nomatch hm)) (fun t ht => let ⟨p, hp, hl⟩ := PyData.shownKv_key_le D t ht; Nat.le_trans hl (Nat.le_trans (dictText_mem_le hp) hz'))
    obtain ⟨as2, b2, q2, hb2, kk2⟩ := DGs.shows I hds (vals_of_pairs hkv hpp) (by rw [← ev]; exact hs2) (fun t ht => by
      rw [← ev] at ht
      obtain ⟨p, hp, hl⟩ := PyData.shownKv_val_le D t ht
      exact Nat.le_trans hl (Nat.le_trans (dictText_mem_le hp) hz'))
    rw [← ev] at q2 hb2 kk2
    have rr : Reads s.heap (.ref a) (.dict D) _ := .dict ho hx.1 hdat k1 q2
    have hb : ReadAtMost s.heap (PyData.depthKv D) (b1 ++ b2) := (hb1.mono (PyData.depthAll_keys_le D)).append (hb2.mono (PyData.depthAll_vals_le D))
    have hna : a ∉ b1 ++ b2 := not_mem_of_deeper rr (by simp only [PyData.depth]; omega) hb
    have hp' : PyData.depthKv D + 1 ≤ 60 := hp
    refine call_repr_slot (by omega) ⟨o, ho, hx.1⟩ F.slot_dict_repr (call_dict_reprK (h₀ := s.heap) ho hx.1 hdat hsys hna (ReprEntriesK.of_two es.toList _ _
      (kk1.more_le (fun b hb => List.mem_append_left _ hb) (PyData.depthAll_keys_le D)) (kk2.more_le (fun b hb => List.mem_append_right _ hb) (PyData.depthAll_vals_le D))) (A := X.A.in1) hG (fun b _ => Clear.nil b) (by show X.A.units + 1 + _ < cLine; omega) (fun _ _ e => e) (fun h' u tk hk2 => ⟨_, _, rfl, ?_⟩) (by rw [← PyData.shownKv_eq]; exact hz'))
    have := fin (t := u) (tk := tk) hk2
    simpa only [PyData.shown, PyData.shownKv_eq] using this
end
section
variable {X : Cx} {e : Expr} {σ : L2.St} {H : Hp} {Q : VK} {pos p : Pos}
theorem e_reprA (hm : X.mg "repr" = none) (hG : X.A.guards = some []) (hu : X.A.units + 64 < cLine) (h : WE X e σ H fun x H1 => ∃ S d, DG S H1 x d ∧ d.showable = true ∧ d.depth ≤ 60 ∧ d.shown.length ≤ sizeLine ∧ Q (.str d.shown) H1) (hg : Gl X "repr" := by rfl)
    (he : starEach [e] X.env = (false, eval e X.env) :: starEach [] X.env := by rfl) (hpl : (backTo pos (starEach [] X.env)).any (·.1) = false := by rfl) : WE X (.Call (.Name "repr" p) [e] [] pos) σ H Q :=
  e_callB (call_reprA hG hu) hm PyProof.Rows.boot_repr (a_cons (WE.mono h fun x H1 ⟨S, d, h1, h3, h4, h5, q⟩ => a_nil ⟨S, x, d, rfl, h1, h3, h4, h5, q⟩) he) hg (by decide) (by decide) he hpl
end
end My

namespace My
open PySem PySem.Spec PyProof.Rows L2
/-! ### sorted of a tuple of texts -/
section
variable {P : Program} {w : World} {A : Around} {E : Value → Shared → Prop} {z : Shared} {a : Addr} {us : List Value}
theorem gather_tup {Q : List Value → Shared → Prop} (ht : z.heap.IsTuple a us.toArray) (hn : us.length ≤ sizeLine)
    (k : Q us { z with heap := (z.heap.push (seqObj "list" #[] 0)).update z.heap.objs.size (Obj.mapSeq (· ++ us.toArray)) }) : wpAny (model P w) A (collect (.ref a)) Q E z := by
  obtain ⟨ob, hob, hcl, m, hda⟩ := id ht
  have hob2 : (z.heap.push (seqObj "list" #[] 0)).get? a = some ob := Heap.get?_push_of_some _ hob
  have hnew : (z.heap.push (seqObj "list" #[] 0)).get? z.heap.objs.size = some (seqObj "list" #[] 0) := Heap.get?_push_size _ rfl
  unfold collect
  refine wpAny_bind (wpAny_runValue (codeAny_builtin entry_proto_collect' ?_))
  show wpAny _ _ (do again (.builtin "list.__iadd__" ⟨[← newList [], .ref a], []⟩)) _ _ z
  refine wpAny_bind (wpAny_newList (wpAny_pure ⟨Code.quiet_builtin _ (by decide +kernel), codeAny_builtin entry_list_iadd' ?_⟩))
  show wpAny _ _ (Builtin.List.listExtendWith (.ref z.heap.objs.size) (.ref a) (.ref z.heap.objs.size)) _ _ { z with heap := z.heap.push (seqObj "list" #[] 0) }
  unfold Builtin.List.listExtendWith
  refine wpAny_bind (wpAny_typeOf (T := "tuple") ⟨ob, hob2, hcl⟩ ?_)
  have ett : (Value.type "tuple" == Value.type "tuple") = true := by decide
  rw [if_pos (by rw [ett]; simp)]
  refine wpAny_bind (listItems_at hob2 hda ?_)
  refine wpAny_bind (listItems_at hnew rfl ?_)
  rw [if_neg (by simp)]
  refine wpAny_bind (listUpdate_at hnew rfl ?_ (Nat.zero_le _) (by show (#[] ++ us.toArray).size ≤ sizeLine + 1; rw [Array.size_append, List.size_toArray]; show 0 + us.length ≤ _; omega))
  refine wpAny_pure ?_
  refine wpAny_bind (wpAny_load (get?_update_seq hnew _) ?_)
  show wpAny _ _ (pure ((#[] : Array Value) ++ us.toArray).toList) Q E _
  have e : ((#[] : Array Value) ++ us.toArray).toList = us := by simp
  rw [e]
  exact wpAny_pure k
theorem sorted_tup {xs : List Str} {Q : Value → Shared → Prop} (ht : z.heap.IsTuple a us.toArray) (hs : StrsAre us xs) (h64 : us.length < 64)
    (k : ∀ (out : Array Value) (ys : List Str), StrsAre out.toList ys → ys.Perm xs → sortedS ys = true → Q (.ref (z.heap.objs.size + 1)) { z with heap := sortedAll z.heap us out }) : wpAny (model P w) A (call (.builtin "sorted") [.ref a]) Q E z := by
  refine Calls.call_function_entry kind_sorted plain_sorted entry_sorted (args_sorted1 _) ?_
  unfold Builtin.«sorted»
  refine wpAny_bind (m := checkCount "sorted" 1 1 _) (wpAny_pure ?_)
  refine wpAny_bind (gather_tup ht (Nat.le_trans (Nat.le_of_lt h64) (by decide)) ?_)
  refine wpAny_bind (wpAny_newList ?_)
  have hsz : ((z.heap.push (seqObj "list" #[] 0)).update z.heap.objs.size (Obj.mapSeq (· ++ us.toArray))).objs.size = z.heap.objs.size + 1 := by rw [Heap.size_update, size_push']
  have hL : (((z.heap.push (seqObj "list" #[] 0)).update z.heap.objs.size (Obj.mapSeq (· ++ us.toArray))).push (seqObj "list" us.toArray 0)).get? (z.heap.objs.size + 1) = some (seqObj "list" us.toArray 0) := by rw [← hsz]; exact Heap.get?_push_size _ rfl
  show wpAny _ _ _ _ _ { z with heap := ((z.heap.push (seqObj "list" #[] 0)).update z.heap.objs.size (Obj.mapSeq (· ++ us.toArray))).push (seqObj "list" us.toArray 0) }
  rw [hsz]
  refine wpAny_bind (wpAny_holding (wpAny_call_entry slot_list_sort ⟨_, hL, rfl⟩ entry_list_sort (list_sort_treeK strKind_oneLt hL hs.keysOf (fun v1 v2 r e => keyKind_strs (by rw [← e]; exact hs)) h64 fun st hp hst => ⟨_, rfl, ?_⟩) (args_list_sort _)))
  obtain ⟨ys, h1, h2, h3⟩ := sorted_out_str hs hp hst
  exact wpAny_pure ⟨_, rfl, k _ ys h1 h2 h3⟩
end
section
variable {X : Cx}
theorem cr_sortedTS : CallR X (.builtin "sorted") (fun vs H Q => ∃ (a : Addr) (xs : List Str), vs = [V.ref a] ∧ SqT X.K H a (xs.map V.str) ∧ xs.length < 64 ∧ ∀ (ys : List Str) (p : Addr), ys.Perm xs → sortedS ys = true → H p = none → Q (.ref p) (upd H p (.lst (ys.map V.str)))) := by
  intro pins s σ H vs us Q I r h
  obtain ⟨a, xs, rfl, hs, h64, q⟩ := h
  obtain ⟨its, rv, ht, _⟩ := I.tuple hs
  obtain ⟨u, rfl, ru⟩ := vals1 r
  cases ru
  have hl := rv.length
  rw [List.length_map] at hl
  refine sorted_tup ht rv.strs (by omega) fun out ys h1 h2 h3 => ?_
  obtain ⟨ep, he⟩ := sortedAll_at s.heap its out
  have hlen : (ys.map V.str).length ≤ sizeLine := by rw [List.length_map, h2.length_eq]; exact small64 h64
  exact ⟨.ref _, upd H (s.heap.objs.size + 1) (.lst (ys.map V.str)), I.laid (t' := s.toks) (fun _ _ => sortedAll_old) (Nat.le_succ _) ⟨hlen, out.toList, ep, vals_of_strs h1, he⟩, rfl, q ys _ h2 h3 (I.hok.fresh (Nat.le_succ _))⟩
end
end My

namespace My
open PySem PySem.Spec PyProof.Rows L2
/-! ### len(set(texts)) -/
/-- how many different texts stand among the first i -/
def cnt (xs : List Str) : Nat → Nat
  | 0 => 0
  | i + 1 => if (xs.take i).any (· == xs.getD i Str.empty) then cnt xs i else cnt xs i + 1
theorem cnt_le (xs : List Str) : ∀ i, cnt xs i ≤ i
  | 0 => Nat.le_refl _
  | i + 1 => by
    have := cnt_le xs i
    have e : cnt xs (i + 1) = if (xs.take i).any (· == xs.getD i Str.empty) then cnt xs i else cnt xs i + 1 := rfl
    rw [e]
    split
    · exact Nat.le_succ_of_le this
    · exact Nat.succ_le_succ this
theorem take_one {xs : List Str} {i : Nat} (h : i < xs.length) : xs.take (i + 1) = xs.take i ++ [xs.getD i Str.empty] := by
  have e : xs.getD i Str.empty = xs[i] := by rw [List.getD_eq_getElem?_getD, List.getElem?_eq_getElem h]; rfl
  rw [e, List.take_succ_eq_append_getElem h]
theorem cnt_nodup (xs : List Str) : ∀ i, i ≤ xs.length → (cnt xs i = i ↔ (xs.take i).Nodup)
  | 0, _ => by simp [cnt]
  | i + 1, h => by
    have ih := cnt_nodup xs i (by omega)
    have hle := cnt_le xs i
    have hlt : i < xs.length := by omega
    rw [take_one hlt]
    show ((if (xs.take i).any (· == xs.getD i Str.empty) then cnt xs i else cnt xs i + 1) = i + 1) ↔ _
    rw [List.nodup_append]
    by_cases c : (xs.take i).any (· == xs.getD i Str.empty) = true
    · rw [if_pos c]
      constructor
      · intro e; omega
      · intro ⟨_, _, n⟩
        obtain ⟨y, hy, e⟩ := List.any_eq_true.mp c
        exact absurd (eq_of_beq e) (n y hy _ (List.mem_singleton.mpr rfl))
    · rw [if_neg c]
      constructor
      · intro e
        refine ⟨ih.mp (by omega), by simp, fun y hy z hz e2 => c (List.any_eq_true.mpr ⟨y, hy, ?_⟩)⟩
        rw [List.mem_singleton.mp hz] at e2
        rw [e2]; exact beq_self_eq_true _
      · intro ⟨n, _, _⟩
        rw [ih.mpr n]
section
variable {P : Program} {w : World} {A : Around} {R : Result → Shared → Prop} {I S : Addr} {fp wr : List Addr} {G : Array GenState → Array GenState → Prop} {n : Nat} {Pi : Nat → Value → Prop} {St : Nat → Shared → Prop}
abbrev Holds (P : Program) (w : World) (h : Heap) (S : Addr) (xs : List Str) (i : Nat) : Prop := h.SetOf (PySem.strKind P w) S (fun k => (xs.take i).any (· == k)) (cnt xs i)
theorem Holds.at {h h' : Heap} {xs : List Str} {i : Nat} (x : Holds P w h S xs i) (k : ∀ o, h.get? S = some o → h'.get? S = some o) : Holds P w h' S xs i := by
  obtain ⟨o, es, ep, tb, ho, more⟩ := x
  exact ⟨o, es, ep, tb, k o ho, more⟩
theorem set_turns (W : WalksS P w A.in1 I fp wr G n Pi St) (nS : S ∉ fp) (xs : List Str) (hn : xs.length = n) (h64 : n ≤ 1000) (hv : ∀ i v, Pi i v → ∃ t, v = .str (xs.getD i Str.empty) t) :
    ∀ (m i : Nat) (z : Shared), i + m = n → St i z → Holds P w z.heap S xs i →
      (∀ z', Moved (S :: wr) G z z' → Holds P w z'.heap S xs n → R (.ok (.ret .none)) z') → codeAny (model P w) A (.builtin "set.update.loop" ⟨[.ref S, .ref I], []⟩) R z := by
  have nSw : S ∉ wr := fun h => nS (W.sub _ h)
  have more : ∀ b ∈ wr, b ∈ S :: wr := fun b hb => List.mem_cons_of_mem _ hb
  intro m
  induction m with
  | zero =>
    intro i z hi st hS k
    have ei : i = n := by omega
    subst ei
    refine codeAny_builtin PyProof.Rows.F.entry_set_update_loop ?_
    rw [Around.under_plainId PyProof.Rows.F.plain_set_update_loop _]
    show wpAny _ A.in1 (pyNext (.ref I) >>= _) _ _ z
    refine wpAny_bind (W.done z _ _ st fun z' mv => ?_)
    show wpAny _ A.in1 (ret Value.none) _ _ z'
    exact wpAny_pure (k z' (mv.mono more) (hS.at fun o ho => mv.heap S _ nSw ho))
  | succ m ih =>
    intro i z hi st hS k
    have hlt : i < n := by omega
    refine codeAny_builtin PyProof.Rows.F.entry_set_update_loop ?_
    rw [Around.under_plainId PyProof.Rows.F.plain_set_update_loop _]
    show wpAny _ A.in1 (pyNext (.ref I) >>= _) _ _ z
    refine wpAny_bind (W.item i z _ _ hlt st fun v z' hP st' mv => ?_)
    obtain ⟨t, rfl⟩ := hv i v hP
    have hS' : Holds P w z'.heap S xs i := hS.at fun o ho => mv.heap S _ nSw ho
    show wpAny _ A.in1 (holding [Value.str (xs.getD i Str.empty) t] (setAdd S (.str (xs.getD i Str.empty) t)) >>= _) _ _ z'
    refine wpAny_bind (wpAny_holding ?_)
    unfold setAdd
    refine wpAny_holding (wpAny_bind ((PySem.strKind P w).pyHash (k := xs.getD i Str.empty) (strKind_is _ _ _ _) ?_))
    refine wpAny_setAddHashed_of (knd := PySem.strKind P w) (s := { z' with toks := z'.toks + 1 }) (strKind_is _ _ _ _) rfl hS' (by have := cnt_le xs i; unfold scanBound; omega) fun h' only hS2 => ?_
    have hSi : Holds P w h' S xs (i + 1) := by
      refine SetOf_congr hS2 (fun y => ?_) rfl
      show ((xs.take i).any (· == y) || decide (y = xs.getD i Str.empty)) = (xs.take (i + 1)).any (· == y)
      rw [take_one (by omega), List.any_append]
      have e : [xs.getD i Str.empty].any (· == y) = decide (y = xs.getD i Str.empty) := by
        by_cases e : y = xs.getD i Str.empty
        · subst e; simp
        · have hb : (xs.getD i Str.empty == y) = false := beq_eq_false_iff_ne.mpr fun q => e q.symm
          rw [decide_eq_false e]
          show ((xs.getD i Str.empty == y) || false) = false
          rw [hb]; rfl
      rw [e]
    refine wpAny_pure ⟨plainId_quiet PyProof.Rows.F.plain_set_update_loop _, ih (i + 1) _ (by omega) (W.frame _ z' _ _ st' (Nat.le_succ _) fun b hb o e => ?_) hSi fun z2 mv2 hS3 => ?_⟩
    · rw [only.2 b fun q : b = S => nS (by rw [← q]; exact hb)]; exact e
    · refine k z2 (Moved.trans W.gtrans ((mv.mono more).then_heap (Nat.le_succ _) fun b o hb e => ?_) mv2) hS3
      rw [only.2 b fun q : b = S => hb (by rw [q]; exact List.mem_cons_self)]; exact e
end
section
variable {P : Program} {w : World} {A : Around} {E : Value → Shared → Prop} {z : Shared}
abbrev set0 (led : Bool) : Obj := { cls := .type "set", dict := none, data := .set #[] 0 (.fresh 0 0 led) }
set_option maxHeartbeats 4000000 in
theorem make_set {a : Addr} {us : Array Value} {xs : List Str} {Q : Value → Shared → Prop} (calm : A.handled = none) (hseq : z.heap.IsList a us ∨ z.heap.IsTuple a us) (hi : StrsAre us.toList xs) (h1000 : xs.length ≤ 1000)
    (k : ∀ (h' : Heap) (tk : Nat), Holds P w h' z.heap.objs.size xs xs.length → (∀ b o, b < z.heap.objs.size → z.heap.get? b = some o → h'.get? b = some o) → Q (.ref z.heap.objs.size) { z with heap := h', toks := tk }) :
    wpAny (model P w) A (call (.type "set") [.ref a]) Q E z := by
  obtain ⟨c, tl, hmro⟩ := PySem.F.called_set.mro
  have hmade := PySem.F.called_set.made
  have hsub := PySem.F.called_set.sub
  have hsz : xs.length = us.size := by rw [← StrsAre.len_eq hi, Array.length_toList]
  have hval : ∀ (i : Nat) (v : Value), us[i]? = some v → ∃ t, v = .str (xs.getD i Str.empty) t := fun i v hv => SS.strs_at hi i v (by rw [Array.getElem?_toList]; exact hv)
  refine wpAny_call (codeAny_of_tree ?_)
  show wpAny _ _ (callAny (.type "set") _) _ _ _
  refine wpAny_pure ⟨Code.quiet_builtin _ (by decide +kernel), codeAny_builtin PySem.F.entry_type_call ?_⟩
  rw [Around.under_plain (weight_type_call_type "set" [.ref a] []) rfl]
  have t1 := PySem.F.called_set.notType
  have t2 := PySem.F.called_set.canCreate
  have t3 := PySem.F.typeCall_set_1 (.ref a)
  repeat (any_goals (first | assumption | wp_step))
  refine codeAny_mono (code_set_new_1 (.ref a) (E := E) (Q₁ := fun ob z1 => ∃ led : Bool, ob = .ref z.heap.objs.size ∧ z1 = { z with heap := z.heap.push (set0 led) }) fun led => ⟨led, rfl, rfl⟩) fun r z1 hr => ?_
  cases r with
  | error e => exact hr
  | ok fl =>
    cases fl with
    | next => exact hr.elim
    | brk => exact hr.elim
    | cont => exact hr.elim
    | ret ob =>
      obtain ⟨led, rfl, rfl⟩ := hr
      have hS : (z.heap.push (set0 led)).get? z.heap.objs.size = some (set0 led) := Heap.get?_push_size _ rfl
      have hT : Shared.TypeIs { z with heap := z.heap.push (set0 led) } (.ref z.heap.objs.size) "set" := ⟨_, hS, rfl⟩
      have hli := PySem.F.called_set.init.lookup
      have hbi := PySem.F.called_set.init.bind (.ref z.heap.objs.size)
      repeat (any_goals (first | assumption | wp_step))
      refine codeAny_mono (codeAny_call_builtin (R := wants (fun r z2 => r = .none ∧ ∃ h' tk, z2 = { z with heap := h', toks := tk } ∧ Holds P w h' z.heap.objs.size xs xs.length ∧
          (∀ b o, b < z.heap.objs.size → z.heap.get? b = some o → h'.get? b = some o)) E) PySem.F.called_set.init.plain PySem.F.entry_set_init (check_set_init_1 hT ?_)) fun r2 z2 hr2 => ?_
      · have fin : ∀ (T : String) (ob0 : Obj), a < z.heap.objs.size → ∀ z3 : Shared, Moved (z.heap.objs.size :: [(z.heap.push (set0 led)).objs.size]) (fun a b => b = a) { z with heap := (z.heap.push (set0 led)).push ob0 } z3 →
            Holds P w z3.heap z.heap.objs.size xs us.size → wants (fun r z2 => r = .none ∧ ∃ h' tk, z2 = { z with heap := h', toks := tk } ∧ Holds P w h' z.heap.objs.size xs xs.length ∧
              (∀ b o, b < z.heap.objs.size → z.heap.get? b = some o → h'.get? b = some o)) E (.ok (.ret .none)) z3 := by
          intro T ob0 ha z3 mv hS3
          obtain ⟨h', g', d', tk', os'⟩ := z3
          have e1 : g' = z.gens := mv.gens
          have e2 : d' = z.drawn := mv.drawn
          have e3 : os' = z.os := mv.os
          subst e1; subst e2; subst e3
          refine ⟨rfl, h', tk', rfl, by rw [hsz]; exact hS3, fun b o hb e => mv.heap b o (fun q => ?_) (Heap.get?_push_of_some _ (Heap.get?_push_of_some _ e))⟩
          rcases List.mem_cons.mp q with q | q
          · exact absurd q (Nat.ne_of_lt hb)
          · have q := List.mem_singleton.mp q
            rw [Heap.size_push] at q
            exact absurd q (Nat.ne_of_lt (Nat.lt_succ_of_lt hb))
        have calm3 : A.in1.in1.in1.handled = none := by simp [calm]
        have start : ∀ ob0 : Obj, Holds P w ((z.heap.push (set0 led)).push ob0) z.heap.objs.size xs 0 := fun ob0 =>
          SetOf_congr ((setObjOf_fresh (knd := PySem.strKind P w) led).setOf (Heap.get?_push_of_some _ hS) (by unfold scanBound; omega)) (fun _ => rfl) rfl
        rcases hseq with hl | hl
        · obtain ⟨⟨oc, od, oda, osl⟩, hol, hcl, nl, hdl⟩ := hl
          simp only at hcl hdl
          subst hcl; subst hdl
          have hlt : a < z.heap.objs.size := Heap.lt_size hol
          have hol' := Heap.get?_push_of_some (set0 led) hol
          have hsls := PySem.F.sub_list_set
          have hslf := PySem.F.sub_list_frozenset
          have hne : (Value.type "list" == Value.type "dict") = false := by decide
          have hl1 : (z.heap.push (set0 led)).IsList a us := ⟨_, hol', rfl, nl, rfl⟩
          unfold Builtin.«set.__init__» noKeywords Builtin.Frozenset.updateFrom
          generalize hPI : pyIter = PI
          wp_walk
          subst hPI
          refine wpAny_pyIter_list hl1 (wpAny_bind (wpAny_runValue ?_))
          have n1 : a ≠ (z.heap.push (set0 led)).objs.size := by rw [Heap.size_push]; exact Nat.ne_of_lt (Nat.lt_succ_of_lt hlt)
          have n2 : z.heap.objs.size ∉ [(z.heap.push (set0 led)).objs.size, a] := by
            rw [Heap.size_push]; simp only [List.mem_cons, List.not_mem_nil, or_false, not_or]; exact ⟨Nat.ne_of_lt (Nat.lt_succ_self _), Nat.ne_of_gt hlt⟩
          refine set_turns ((Walks.list calm3 _ a n1 us).toS) n2 xs hsz (by omega) hval us.size 0 _ (by omega) ⟨⟨_, Heap.get?_push_size _ rfl, rfl, rfl⟩, (hl1.push _)⟩ (start _) fun z3 mv hS3 => ?_
          obtain ⟨_, h', tk, rfl, q1, q2⟩ := fin "list" _ hlt z3 mv hS3
          show wpAny _ _ _ _ _ _
          refine wpAny_pure ?_
          show wpAny _ _ (ret Value.none) _ _ _
          exact wpAny_pure ⟨rfl, h', tk, rfl, q1, q2⟩
        · obtain ⟨⟨oc, od, oda, osl⟩, hol, hcl, nl, hdl⟩ := hl
          simp only at hcl hdl
          subst hcl; subst hdl
          have hlt : a < z.heap.objs.size := Heap.lt_size hol
          have hol' := Heap.get?_push_of_some (set0 led) hol
          have hsls := PySem.F.sub_tuple_set
          have hslf := PySem.F.sub_tuple_frozenset
          have hne : (Value.type "tuple" == Value.type "dict") = false := by decide
          have hl1 : (z.heap.push (set0 led)).IsTuple a us := ⟨_, hol', rfl, nl, rfl⟩
          unfold Builtin.«set.__init__» noKeywords Builtin.Frozenset.updateFrom
          generalize hPI : pyIter = PI
          wp_walk
          subst hPI
          refine wpAny_pyIter_tuple hl1 (wpAny_bind (wpAny_runValue ?_))
          have n1 : a ≠ (z.heap.push (set0 led)).objs.size := by rw [Heap.size_push]; exact Nat.ne_of_lt (Nat.lt_succ_of_lt hlt)
          have n2 : z.heap.objs.size ∉ [(z.heap.push (set0 led)).objs.size, a] := by
            rw [Heap.size_push]; simp only [List.mem_cons, List.not_mem_nil, or_false, not_or]; exact ⟨Nat.ne_of_lt (Nat.lt_succ_self _), Nat.ne_of_gt hlt⟩
          refine set_turns ((Walks.tuple calm3 _ a n1 us).toS) n2 xs hsz (by omega) hval us.size 0 _ (by omega) ⟨⟨_, Heap.get?_push_size _ rfl, rfl, rfl⟩, (hl1.push _)⟩ (start _) fun z3 mv hS3 => ?_
          obtain ⟨_, h', tk, rfl, q1, q2⟩ := fin "tuple" _ hlt z3 mv hS3
          show wpAny _ _ _ _ _ _
          refine wpAny_pure ?_
          show wpAny _ _ (ret Value.none) _ _ _
          exact wpAny_pure ⟨rfl, h', tk, rfl, q1, q2⟩
      · cases r2 with
        | error e => exact hr2
        | ok fl2 =>
          cases fl2 with
          | next => exact hr2.elim
          | brk => exact hr2.elim
          | cont => exact hr2.elim
          | ret r =>
            obtain ⟨rfl, h', tk, rfl, hS', hk'⟩ := hr2
            repeat (any_goals (first | assumption | wp_step))
            exact k _ _ hS' hk'
end
section
variable {X : Cx} {a : Expr} {σ : L2.St} {H : Hp} {Q : VK} {p p2 q pos : Pos}
/-- len(set(xs)), xs a list or tuple of texts -/
theorem e_lenSet (hm : X.mg "len" = none) (hm2 : X.mg "set" = none) (h : WE X a σ H fun x H1 => ∃ l, ∃ xs : List Str, x = .ref l ∧ (SqL X.K H1 l (xs.map V.str) ∨ SqT X.K H1 l (xs.map V.str)) ∧ xs.length ≤ 1000 ∧ Q (.int (cnt xs xs.length)) H1)
    (hc : X.calm = true := by rfl) (hg : Gl X "len" := by rfl) (hg2 : Gl X "set" := by rfl) (na : starEach [a] X.env = (false, eval a X.env) :: starEach [] X.env := by rfl) :
    WE X (.Call (.Name "len" p) [.Call (.Name "set" p2) [a] [] q] [] pos) σ H Q := by
  constructor
  intro pins s I
  refine Call_ (ld_blt I hg hm boot_len ?_)
  refine PyProof.Rows.callWith_builtin1 (PyProof.Rows.args_cons ?_ rfl) rfl rfl
  refine Call_ (ld_blt I hg2 hm2 boot_set ?_)
  refine PyProof.Rows.callWith_type1 (PyProof.Rows.args_cons (thn (h.go pins s I) fun v s1 ⟨x, H1, I1, r1, l, xs, e1, hq, hl, q1⟩ => PyProof.Rows.args_nil ?_) na) na rfl
  subst e1
  cases r1
  have fin : ∀ (us : List Value), Vals (xs.map V.str) us → (s1.heap.IsList l us.toArray ∨ s1.heap.IsTuple l us.toArray) →
      wpAny (model X.prog X.w) X.A (call (.type "set") [.ref l]) (fun v s₂ => wpAny (model X.prog X.w) X.A (spliced (backTo pos (starEach [] X.env))) (fun vs s₂ => wpAny (model X.prog X.w) X.A (call (.builtin "len") (v :: vs)) (EP X pins σ Q) X.xe s₂) X.xe s₂) X.xe s1 := fun us r hseq => by
    refine make_set (I1.ok.hd hc) hseq (by simpa using strsAre_of r) hl fun h' tk hS hk => ?_
    refine PyProof.Rows.args_nil ?_
    obtain ⟨o, es, ep, t, ho, hex, hd, _, _, _, hf, hn⟩ := hS
    have I2 : Inv X pins σ H1 { s1 with heap := h', toks := tk } := I1.kept fun b o e => hk b o (Heap.lt_size e) e
    have hcn := cnt_le xs xs.length
    refine call_len_set ho hex hd hf (by rw [hn]; omega) ⟨.int (cnt xs xs.length), H1, I2.tok _, ⟨_, by rw [hn]⟩, q1⟩
  rcases hq with hq | hq
  · obtain ⟨us, r, pl, hz⟩ := I1.list hq
    exact fin us r (.inl pl.isList)
  · obtain ⟨us, r, pl, hz⟩ := I1.tuple hq
    exact fin us r (.inr pl)
end
end My

namespace My
open PySem PySem.Spec PyProof.Rows L2
/-! ### sets of texts whose table rises: they can be walked -/
def txOf (e : Int × Value) : Str := match e.2 with | .str x _ => x | _ => Str.empty
def GoodT (w : World) (e : Int × Value) : Prop := ∃ x tk, e.2 = Value.str x tk ∧ e.1 = hashStr w x
/-- the set at a: the texts S, n of them -/
def SetT (w : World) (h : Heap) (a : Addr) (S : Str → Bool) (n : Nat) : Prop :=
  ∃ o es ep t, (h.get? a = some o ∧ o.ExactSet ∧ o.data = .set es ep t) ∧ ((∀ e ∈ es.toList, GoodT w e) ∧ (es.toList.map txOf).Nodup ∧ ∀ k, S k = true ↔ k ∈ es.toList.map txOf) ∧
    (es.size < scanBound ∧ t.fits es.size = true ∧ es.size = n) ∧ Ris t.place.toList ∧ (w.params.followText "set-order" = true ∨ t.led = true)
section
variable {P : Program} {w : World} {h h' : Heap} {a : Addr} {S : Str → Bool} {n : Nat}
theorem goodT_elems {l : List (Int × Value)} (g : ∀ e ∈ l, GoodT w e) : ElemsOf (PySem.strKind P w) l := fun e he => by
  obtain ⟨x, tk, h1, h2⟩ := g e he
  exact ⟨⟨x, by rw [h1]; exact strKind_is P w x tk, h2⟩, by rw [h1] <;> rfl⟩
theorem goodT_is {e : Int × Value} (g : GoodT w e) (k : Str) : (PySem.strKind P w).is k e.2 = true ↔ txOf e = k := by
  obtain ⟨x, tk, h1, _⟩ := g
  unfold txOf
  rw [h1]
  show ((x == k) = true) ↔ x = k
  exact beq_iff_eq
theorem goodT_mem {l : List (Int × Value)} (g : ∀ e ∈ l, GoodT w e) (k : Str) : k ∈ l.map txOf ↔ ∃ e ∈ l, (PySem.strKind P w).is k e.2 = true := by
  rw [List.mem_map]
  exact ⟨fun ⟨e, he, q⟩ => ⟨e, he, (goodT_is (P := P) (g e he) k).2 q⟩, fun ⟨e, he, q⟩ => ⟨e, he, (goodT_is (P := P) (g e he) k).1 q⟩⟩
theorem SetT.setOf (R : SetT w h a S n) : h.SetOf (PySem.strKind P w) a S n := by
  obtain ⟨o, es, ep, t, ⟨ho, hx, hd⟩, ⟨g, nd, hm⟩, ⟨hb, hf, hn⟩, _⟩ := R
  exact ⟨o, es, ep, t, ho, hx, hd, goodT_elems g, fun k => (hm k).trans (goodT_mem (P := P) g k), hb, hf, hn⟩
theorem SetT.at (R : SetT w h a S n) (k : ∀ o, h.get? a = some o → h'.get? a = some o) : SetT w h' a S n := by
  obtain ⟨o, es, ep, t, ⟨ho, r1⟩, r2⟩ := R
  exact ⟨o, es, ep, t, ⟨k o ho, r1⟩, r2⟩
theorem SetT.congr {S' : Str → Bool} {m : Nat} (R : SetT w h a S n) (e : ∀ k, S' k = S k) (em : m = n) : SetT w h a S' m := by
  rw [funext e, em]; exact R
end
section
variable {P : Program} {w : World} {A : Around} {E : Value → Shared → Prop} {s : Shared} {a : Addr} {S : Str → Bool} {n : Nat}
/-- the end of an insertion: stored, and laid anew where the table is too full -/
theorem setT_tail {g : Bool → Sem Unit} (hg : ∀ (b : Bool) (s₁ : Shared) (Q' : Unit → Shared → Prop), Q' () s₁ → wpAny (model P w) A (g b) Q' E s₁)
    {o : Obj} {es : Array (Int × Value)} {ep : Nat} {t : SetTable} (ho : s.heap.get? a = some o) (hex : o.ExactSet) (hd : o.data = .set es ep t)
    {es1 : Array (Int × Value)} {t2 : SetTable} {S' : Str → Bool} (g1 : ∀ e ∈ es1.toList, GoodT w e) (nd1 : (es1.toList.map txOf).Nodup) (m1 : ∀ k, S' k = true ↔ k ∈ es1.toList.map txOf)
    (hb1 : es1.size < scanBound) (hf2 : t2.fits es1.size = true) (hr : Ris t2.place.toList) (hl : w.params.followText "set-order" = true ∨ t2.led = true) {wasDummy : Bool} {R : Option Bool → Shared → Prop}
    (hR : ∀ h', Heap.SameBut a s.heap h' → SetT w h' a S' es1.size → R (some true) { s with heap := h' }) :
    wpAny (model P w) A (do
        storeSet a es1 t2
        if (!wasDummy && t2.tooFull) = true then do
            g (relayAll t2 es1 (SetTable.grown es1.size)).2.2
            storeSet a (relayAll t2 es1 (SetTable.grown es1.size)).1 (relayAll t2 es1 (SetTable.grown es1.size)).2.1
            pure (some true)
          else pure (some true)) R E s := by
  refine wpAny_bind (wpAny_storeSet_of ho hd ?_ (fits_of_scanBound hb1))
  have at1 := store_at (es' := es1) (t' := t2) ho hd
  have sb := Heap.SameBut.update s.heap a (Obj.putSet es1 t2)
  split
  · have p1 := relayAll_perm t2 es1 (SetTable.grown es1.size)
    have p2 := relayAll_fits t2 es1 (SetTable.grown es1.size)
    have p3 := relayAll_ris t2 es1 (SetTable.grown es1.size)
    have p4 := relayAll_led t2 es1 (SetTable.grown es1.size)
    generalize relayAll t2 es1 (SetTable.grown es1.size) = Z at p1 p2 p3 p4 ⊢
    obtain ⟨es2, t3, gave⟩ := Z
    dsimp only at p1 p2 p3 p4 ⊢
    have sz : es2.size = es1.size := by rw [← Array.length_toList, p1.length_eq, Array.length_toList]
    refine wpAny_bind (hg _ _ _ (wpAny_bind (wpAny_storeSet_of at1 rfl ?_ (fits_of_scanBound (by rw [sz]; exact hb1)))))
    have at2 := store_at (es' := es2) (t' := t3) at1 rfl
    refine wpAny_pure (hR _ (sb.trans (Heap.SameBut.update _ a _)) ?_)
    exact ⟨_, es2, _, t3, ⟨at2, hex, rfl⟩, ⟨fun e he => g1 e (p1.mem_iff.mp he), (p1.map txOf).nodup_iff.mpr nd1, fun k => (m1 k).trans (p1.map txOf).mem_iff.symm⟩, ⟨by rw [sz]; exact hb1, p2, sz⟩, p3,
      hl.imp id fun z => by rw [p4]; exact z⟩
  · exact wpAny_pure (hR _ sb ⟨_, es1, _, t2, ⟨at1, hex, rfl⟩, ⟨g1, nd1, m1⟩, ⟨hb1, hf2, rfl⟩, hr, hl⟩)
theorem setT_add {k : Str} {tk : Tok} {Q : Bool → Shared → Prop} (R : SetT w s.heap a S n) (room : n + 1 < scanBound)
    (hQ : ∀ h', Heap.SameBut a s.heap h' → SetT w h' a (fun j => S j || decide (j = k)) (if S k = true then n else n + 1) → Q (!S k) { s with heap := h' }) :
    wpAny (model P w) A (setAddHashed a (.str k tk) ((PySem.strKind P w).hash k)) Q E s := by
  obtain ⟨o, es, ep, t, ⟨ho, hex, hd⟩, ⟨g, nd, hm⟩, ⟨hb, hf, hn⟩, hr, hl⟩ := R
  have hkey : (PySem.strKind P w).is k (.str k tk) = true := strKind_is P w k tk
  have hsc : (Value.str k tk).scannable = true := rfl
  have hel : ElemsOf (PySem.strKind P w) es.toList := goodT_elems g
  unfold setAddHashed setAddHashedIn
  refine wpAny_holding (wpAny_bind (wpAny_setState_of ho hd hf ?_))
  dsimp only
  rw [byScan_of hsc hb hel]
  simp only [↓reduceIte]
  unfold setAddByScan
  refine wpAny_bind (wpAny_bind (wpAny_rule (wpAny_bind (wpAny_setScan_of hkey ho hd hf hel ?_))))
  cases hfi : List.findIdx? (fun e => (PySem.strKind P w).is k e.2) es.toList with
  | some j =>
    dsimp only
    obtain ⟨hj, pj, _⟩ := List.findIdx?_eq_some_iff_getElem.mp hfi
    have yes : S k = true := (hm k).2 ((goodT_mem (P := P) g k).2 ⟨es.toList[j], List.getElem_mem hj, pj⟩)
    refine wpAny_pure (wpAny_pure ?_)
    have q := hQ s.heap (Heap.SameBut.refl a s.heap) ⟨o, es, ep, t, ⟨ho, hex, hd⟩, ⟨g, nd, fun i => by
      rw [Bool.or_eq_true, decide_eq_true_eq, ← hm i]
      exact ⟨fun z => z.elim id (fun e => e ▸ yes), .inl⟩⟩, ⟨hb, hf, by rw [if_pos yes]; exact hn⟩, hr, hl⟩
    rw [yes] at q
    exact q
  | none =>
    dsimp only
    have new : k ∉ es.toList.map txOf := fun z => by
      obtain ⟨e, he, q⟩ := (goodT_mem (P := P) g k).1 z
      have c := List.findIdx?_eq_none_iff.mp hfi e he
      rw [q] at c
      cases c
    have no : S k = false := by
      cases q : S k with
      | false => rfl
      | true => exact absurd ((hm k).1 q) new
    have hgw : ∀ (b : Bool) {s₁ : Shared} {Q' : Unit → Shared → Prop}, Q' () s₁ → wpAny (model P w) A (match b with | true => rule "set.scan.the-table-gave-way" | false => pure ()) Q' E s₁ :=
      fun b s₁ Q' q => by cases b <;> first | exact wpAny_pure q | exact wpAny_rule q
    have p1 := layNew_perm t es ((PySem.strKind P w).hash k) (.str k tk)
    have p2 := layNew_fits t es ((PySem.strKind P w).hash k) (.str k tk)
    have p3 := layNew_ris t es ((PySem.strKind P w).hash k) (.str k tk) hr
    have p4 := layNew_led t es ((PySem.strKind P w).hash k) (.str k tk)
    generalize layNew t es ((PySem.strKind P w).hash k) (.str k tk) = Z at p1 p2 p3 p4 ⊢
    obtain ⟨es1, t1, wasDummy, gave⟩ := Z
    dsimp only at p1 p2 p3 p4 ⊢
    rw [Array.toList_push] at p1
    have pc : es1.toList.Perm (((PySem.strKind P w).hash k, Value.str k tk) :: es.toList) := p1.trans (List.perm_append_singleton _ _)
    have pk : (es1.toList.map txOf).Perm (k :: es.toList.map txOf) := pc.map txOf
    have g1 : ∀ e ∈ es1.toList, GoodT w e := fun e he => by
      rcases List.mem_cons.mp (pc.mem_iff.mp he) with z | z
      · rw [z]; exact ⟨k, tk, rfl, rfl⟩
      · exact g e z
    have nd1 : (es1.toList.map txOf).Nodup := pk.nodup_iff.mpr (List.nodup_cons.mpr ⟨new, nd⟩)
    have m1 : ∀ i, (S i || decide (i = k)) = true ↔ i ∈ es1.toList.map txOf := fun i => by
      rw [Bool.or_eq_true, decide_eq_true_eq, hm i, pk.mem_iff, List.mem_cons]
      exact Or.comm
    have sz : es1.size = n + 1 := by rw [← Array.length_toList, pc.length_eq, List.length_cons, Array.length_toList, hn]
    have led1 : w.params.followText "set-order" = true ∨ t1.led = true := hl.imp id fun z => by rw [p4]; exact z
    have fin : ∀ h', Heap.SameBut a s.heap h' → SetT w h' a (fun j => S j || decide (j = k)) es1.size → Q true { s with heap := h' } := fun h' sb r => by
      have q := hQ h' sb
      rw [no] at q
      rw [sz] at r
      exact q r
    refine wpAny_bind (hgw _ ?_)
    split
    · refine wpAny_bind ?_
      rw [hashByValue_scannable 8 hsc]
      refine wpAny_pure (setT_tail ?_ ho hex hd g1 nd1 m1 (by rw [sz]; exact room) ?_ ?_ ?_ ?_)
      · intro b s₁ Q' q; cases b <;> first | exact wpAny_pure q | exact wpAny_rule q
      · first | (split <;> first | exact p2 | exact SetTable.fits_plain_off p2) | exact p2
      · first | (split <;> exact p3) | exact p3
      · first | (split <;> exact led1) | exact led1
      · intro h' sb r; dsimp only; exact wpAny_pure (fin h' sb r)
    · refine wpAny_bind (wpAny_pure ?_)
      simp only [↓reduceIte]
      refine setT_tail ?_ ho hex hd g1 nd1 m1 (by rw [sz]; exact room) p2 p3 led1 ?_
      · intro b s₁ Q' q; cases b <;> first | exact wpAny_pure q | exact wpAny_rule q
      · intro h' sb r; dsimp only; exact wpAny_pure (fin h' sb r)
/-! ### sorted -/
theorem txs_of : ∀ (l : List Value), (∀ v ∈ l, ∃ x tk, v = Value.str x tk) → StrsAre l (l.map fun v => txOf (0, v))
  | [], _ => .nil
  | v :: l, h => by
    obtain ⟨x, tk, rfl⟩ := h v List.mem_cons_self
    exact .cons x tk (txs_of l fun u hu => h u (List.mem_cons_of_mem _ hu))
theorem sorted_setT {Q : Value → Shared → Prop} (R : SetT w s.heap a S n) (hh : A.handled = none) (h64 : n < 64)
    (hQ : ∀ s' p (out : Array Value) (c : Nat) (ys : List Str), (∀ b o, s.heap.get? b = some o → s'.heap.get? b = some o) → s'.gens = s.gens → s'.os = s.os → s.heap.objs.size ≤ p →
      s'.heap.get? p = some (seqObj "list" out c) → StrsAre out.toList ys → sortedS ys = true → ys.Nodup → (∀ k, k ∈ ys ↔ S k = true) → ys.length = n → Q (.ref p) s') :
    wpAny (model P w) A (call (.builtin "sorted") [.ref a]) Q E s := by
  obtain ⟨o, es, ep, t, ⟨ho, hex, hd⟩, ⟨g, nd, hm⟩, ⟨hb, hf, hn⟩, hr, hl⟩ := R
  refine Calls.call_function_entry kind_sorted plain_sorted entry_sorted (args_sorted1 _) ?_
  unfold Builtin.«sorted»
  refine wpAny_bind (m := checkCount "sorted" 1 1 _) (wpAny_pure ?_)
  refine wpAny_bind (collect_set (A := A.in1) hh ⟨o, ho, hex.1, hd⟩ hf hb hr hl fun s1 vs k1 hz g1 o1 pm => ?_)
  have hvl : vs.length = n := by rw [pm.length_eq, List.length_map, Array.length_toList]; exact hn
  have hI : StrsAre vs (vs.map fun v => txOf (0, v)) := txs_of vs fun v hv => by
    obtain ⟨e, he, q⟩ := List.mem_map.mp (pm.mem_iff.mp hv)
    obtain ⟨x, tk, h1, _⟩ := g e he
    exact ⟨x, tk, by rw [← q]; exact h1⟩
  have pk : (vs.map fun v => txOf (0, v)).Perm (es.toList.map txOf) := by
    have q := pm.map fun v => txOf (0, v)
    rw [List.map_map] at q
    exact q
  refine wpAny_bind (wpAny_newList ?_ (by rw [hvl, sizeLine_eq]; omega))
  have hoL : (s1.heap.push (seqObj "list" vs.toArray 0)).get? s1.heap.objs.size = some (seqObj "list" vs.toArray 0) := Heap.get?_push_size _ rfl
  refine wpAny_bind (wpAny_holding (wpAny_call_entry slot_list_sort ⟨_, hoL, rfl⟩ entry_list_sort (list_sort_treeK strKind_oneLt hoL hI.keysOf (fun v1 v2 r e => keyKind_strs (by rw [← e]; exact hI)) (by rw [hvl]; exact h64) fun st hp hst => ⟨_, rfl, ?_⟩) (args_list_sort _)))
  obtain ⟨ys, h1, h2, h3⟩ := sorted_out_str hI hp hst
  generalize Array.map (fun x => x.snd) (arrOf st) = out at h1 ⊢
  have pn : ys.Perm (es.toList.map txOf) := h2.trans pk
  obtain ⟨c, hc⟩ := sortedHeap_at (vs := vs) (out := out) hoL
  refine wpAny_pure ⟨_, rfl, hQ _ s1.heap.objs.size out c ys (fun b u e => ?_) g1 o1 hz hc h1 h3 (pn.nodup_iff.mpr nd) (fun k => by rw [pn.mem_iff, ← hm k]) ?_⟩
  · have q := k1 b u e
    have hlt := Heap.lt_size q
    show (sortedHeap (s1.heap.push (seqObj "list" vs.toArray 0)) s1.heap.objs.size vs out).get? b = some u
    rw [sortedHeap_old (Nat.ne_of_lt hlt) (by rw [size_push']; exact Nat.lt_succ_of_lt hlt)]
    exact Heap.get?_push_of_some _ q
  · rw [pn.length_eq, List.length_map, Array.length_toList]; exact hn
end
end My

namespace My
open PySem PySem.Spec PyProof.Rows L2
section
variable {P : Program} {w : World} {A : Around} {R : Result → Shared → Prop} {I S : Addr} {fp wr : List Addr} {G : Array GenState → Array GenState → Prop} {n : Nat} {Pi : Nat → Value → Prop} {St : Nat → Shared → Prop}
abbrev HoldT (w : World) (h : Heap) (S : Addr) (xs : List Str) (i : Nat) : Prop := SetT w h S (fun k => (xs.take i).any (· == k)) (cnt xs i)
theorem setT_turns (W : WalksS P w A.in1 I fp wr G n Pi St) (nS : S ∉ fp) (xs : List Str) (hn : xs.length = n) (h64 : n ≤ 1000) (hv : ∀ i v, Pi i v → ∃ t, v = .str (xs.getD i Str.empty) t) :
    ∀ (m i : Nat) (z : Shared), i + m = n → St i z → HoldT w z.heap S xs i →
      (∀ z', Moved (S :: wr) G z z' → HoldT w z'.heap S xs n → R (.ok (.ret .none)) z') → codeAny (model P w) A (.builtin "set.update.loop" ⟨[.ref S, .ref I], []⟩) R z := by
  have nSw : S ∉ wr := fun h => nS (W.sub _ h)
  have more : ∀ b ∈ wr, b ∈ S :: wr := fun b hb => List.mem_cons_of_mem _ hb
  intro m
  induction m with
  | zero =>
    intro i z hi st hS k
    have ei : i = n := by omega
    subst ei
    refine codeAny_builtin PyProof.Rows.F.entry_set_update_loop ?_
    rw [Around.under_plainId PyProof.Rows.F.plain_set_update_loop _]
    show wpAny _ A.in1 (pyNext (.ref I) >>= _) _ _ z
    refine wpAny_bind (W.done z _ _ st fun z' mv => ?_)
    show wpAny _ A.in1 (ret Value.none) _ _ z'
    exact wpAny_pure (k z' (mv.mono more) (SetT.at hS fun o ho => mv.heap S _ nSw ho))
  | succ m ih =>
    intro i z hi st hS k
    have hlt : i < n := by omega
    refine codeAny_builtin PyProof.Rows.F.entry_set_update_loop ?_
    rw [Around.under_plainId PyProof.Rows.F.plain_set_update_loop _]
    show wpAny _ A.in1 (pyNext (.ref I) >>= _) _ _ z
    refine wpAny_bind (W.item i z _ _ hlt st fun v z' hP st' mv => ?_)
    obtain ⟨t, rfl⟩ := hv i v hP
    have hS' : HoldT w z'.heap S xs i := SetT.at hS fun o ho => mv.heap S _ nSw ho
    show wpAny _ A.in1 (holding [Value.str (xs.getD i Str.empty) t] (setAdd S (.str (xs.getD i Str.empty) t)) >>= _) _ _ z'
    refine wpAny_bind (wpAny_holding ?_)
    unfold setAdd
    refine wpAny_holding (wpAny_bind ((PySem.strKind P w).pyHash (k := xs.getD i Str.empty) (strKind_is _ _ _ _) ?_))
    refine setT_add (s := { z' with toks := z'.toks + 1 }) hS' (by have := cnt_le xs i; unfold scanBound; omega) fun h' only hS2 => ?_
    have hSi : HoldT w h' S xs (i + 1) := by
      refine hS2.congr (fun y => Eq.symm ?_) rfl
      show ((xs.take i).any (· == y) || decide (y = xs.getD i Str.empty)) = (xs.take (i + 1)).any (· == y)
      rw [take_one (by omega), List.any_append]
      have e : [xs.getD i Str.empty].any (· == y) = decide (y = xs.getD i Str.empty) := by
        by_cases e : y = xs.getD i Str.empty
        · subst e; simp
        · have hb : (xs.getD i Str.empty == y) = false := beq_eq_false_iff_ne.mpr fun q => e q.symm
          rw [decide_eq_false e]
          show ((xs.getD i Str.empty == y) || false) = false
          rw [hb]; rfl
      rw [e]
    refine wpAny_pure ⟨plainId_quiet PyProof.Rows.F.plain_set_update_loop _, ih (i + 1) _ (by omega) (W.frame _ z' _ _ st' (Nat.le_succ _) fun b hb o e => ?_) hSi fun z2 mv2 hS3 => ?_⟩
    · rw [only.2 b fun q : b = S => nS (by rw [← q]; exact hb)]; exact e
    · refine k z2 (Moved.trans W.gtrans ((mv.mono more).then_heap (Nat.le_succ _) fun b o hb e => ?_) mv2) hS3
      rw [only.2 b fun q : b = S => hb (by rw [q]; exact List.mem_cons_self)]; exact e
end
section
variable {P : Program} {w : World} {A : Around} {E : Value → Shared → Prop} {z : Shared}
set_option maxHeartbeats 4000000 in
theorem make_setT {a : Addr} {us : Array Value} {xs : List Str} {Q : Value → Shared → Prop} (calm : A.handled = none) (hseq : z.heap.IsList a us ∨ z.heap.IsTuple a us) (hi : StrsAre us.toList xs) (h1000 : xs.length ≤ 1000)
    (k : ∀ (h' : Heap) (tk : Nat), HoldT w h' z.heap.objs.size xs xs.length → (∀ b o, b < z.heap.objs.size → z.heap.get? b = some o → h'.get? b = some o) → Q (.ref z.heap.objs.size) { z with heap := h', toks := tk }) :
    wpAny (model P w) A (call (.type "set") [.ref a]) Q E z := by
  obtain ⟨c, tl, hmro⟩ := PySem.F.called_set.mro
  have hmade := PySem.F.called_set.made
  have hsub := PySem.F.called_set.sub
  have hsz : xs.length = us.size := by rw [← StrsAre.len_eq hi, Array.length_toList]
  have hval : ∀ (i : Nat) (v : Value), us[i]? = some v → ∃ t, v = .str (xs.getD i Str.empty) t := fun i v hv => SS.strs_at hi i v (by rw [Array.getElem?_toList]; exact hv)
  refine wpAny_call (codeAny_of_tree ?_)
  show wpAny _ _ (callAny (.type "set") _) _ _ _
  refine wpAny_pure ⟨Code.quiet_builtin _ (by decide +kernel), codeAny_builtin PySem.F.entry_type_call ?_⟩
  rw [Around.under_plain (weight_type_call_type "set" [.ref a] []) rfl]
  have t1 := PySem.F.called_set.notType
  have t2 := PySem.F.called_set.canCreate
  have t3 := PySem.F.typeCall_set_1 (.ref a)
  repeat (any_goals (first | assumption | wp_step))
  refine codeAny_mono (code_set_led1 (.ref a) (E := E) (Q₁ := fun ob z1 => ∃ led : Bool, led = (!w.params.followText "set-order") ∧ ob = .ref z.heap.objs.size ∧ z1 = { z with heap := z.heap.push (set0 led) }) ⟨_, rfl, rfl, rfl⟩) fun r z1 hr => ?_
  cases r with
  | error e => exact hr
  | ok fl =>
    cases fl with
    | next => exact hr.elim
    | brk => exact hr.elim
    | cont => exact hr.elim
    | ret ob =>
      obtain ⟨led, hled, rfl, rfl⟩ := hr
      have hS : (z.heap.push (set0 led)).get? z.heap.objs.size = some (set0 led) := Heap.get?_push_size _ rfl
      have hT : Shared.TypeIs { z with heap := z.heap.push (set0 led) } (.ref z.heap.objs.size) "set" := ⟨_, hS, rfl⟩
      have hli := PySem.F.called_set.init.lookup
      have hbi := PySem.F.called_set.init.bind (.ref z.heap.objs.size)
      repeat (any_goals (first | assumption | wp_step))
      refine codeAny_mono (codeAny_call_builtin (R := wants (fun r z2 => r = .none ∧ ∃ h' tk, z2 = { z with heap := h', toks := tk } ∧ HoldT w h' z.heap.objs.size xs xs.length ∧
          (∀ b o, b < z.heap.objs.size → z.heap.get? b = some o → h'.get? b = some o)) E) PySem.F.called_set.init.plain PySem.F.entry_set_init (check_set_init_1 hT ?_)) fun r2 z2 hr2 => ?_
      · have fin : ∀ (T : String) (ob0 : Obj), a < z.heap.objs.size → ∀ z3 : Shared, Moved (z.heap.objs.size :: [(z.heap.push (set0 led)).objs.size]) (fun a b => b = a) { z with heap := (z.heap.push (set0 led)).push ob0 } z3 →
            HoldT w z3.heap z.heap.objs.size xs us.size → wants (fun r z2 => r = .none ∧ ∃ h' tk, z2 = { z with heap := h', toks := tk } ∧ HoldT w h' z.heap.objs.size xs xs.length ∧
              (∀ b o, b < z.heap.objs.size → z.heap.get? b = some o → h'.get? b = some o)) E (.ok (.ret .none)) z3 := by
          intro T ob0 ha z3 mv hS3
          obtain ⟨h', g', d', tk', os'⟩ := z3
          have e1 : g' = z.gens := mv.gens
          have e2 : d' = z.drawn := mv.drawn
          have e3 : os' = z.os := mv.os
          subst e1; subst e2; subst e3
          refine ⟨rfl, h', tk', rfl, by rw [hsz]; exact hS3, fun b o hb e => mv.heap b o (fun q => ?_) (Heap.get?_push_of_some _ (Heap.get?_push_of_some _ e))⟩
          rcases List.mem_cons.mp q with q | q
          · exact absurd q (Nat.ne_of_lt hb)
          · have q := List.mem_singleton.mp q
            rw [Heap.size_push] at q
            exact absurd q (Nat.ne_of_lt (Nat.lt_succ_of_lt hb))
        have calm3 : A.in1.in1.in1.handled = none := by simp [calm]
        have start : ∀ ob0 : Obj, HoldT w ((z.heap.push (set0 led)).push ob0) z.heap.objs.size xs 0 := fun ob0 =>
          ⟨_, #[], 0, _, ⟨Heap.get?_push_of_some _ hS, ⟨rfl, rfl, rfl⟩, rfl⟩, ⟨fun e he => by simp at he, by simp, fun k => by simp⟩, ⟨by decide, by rfl, rfl⟩, List.Pairwise.nil, by
            show _ ∨ led = true
            rw [hled]
            cases w.params.followText "set-order"
            · exact .inr rfl
            · exact .inl rfl⟩
        rcases hseq with hl | hl
        · obtain ⟨⟨oc, od, oda, osl⟩, hol, hcl, nl, hdl⟩ := hl
          simp only at hcl hdl
          subst hcl; subst hdl
          have hlt : a < z.heap.objs.size := Heap.lt_size hol
          have hol' := Heap.get?_push_of_some (set0 led) hol
          have hsls := PySem.F.sub_list_set
          have hslf := PySem.F.sub_list_frozenset
          have hne : (Value.type "list" == Value.type "dict") = false := by decide
          have hl1 : (z.heap.push (set0 led)).IsList a us := ⟨_, hol', rfl, nl, rfl⟩
          unfold Builtin.«set.__init__» noKeywords Builtin.Frozenset.updateFrom
          generalize hPI : pyIter = PI
          wp_walk
          subst hPI
          refine wpAny_pyIter_list hl1 (wpAny_bind (wpAny_runValue ?_))
          have n1 : a ≠ (z.heap.push (set0 led)).objs.size := by rw [Heap.size_push]; exact Nat.ne_of_lt (Nat.lt_succ_of_lt hlt)
          have n2 : z.heap.objs.size ∉ [(z.heap.push (set0 led)).objs.size, a] := by
            rw [Heap.size_push]; simp only [List.mem_cons, List.not_mem_nil, or_false, not_or]; exact ⟨Nat.ne_of_lt (Nat.lt_succ_self _), Nat.ne_of_gt hlt⟩
          refine setT_turns ((Walks.list calm3 _ a n1 us).toS) n2 xs hsz (by omega) hval us.size 0 _ (by omega) ⟨⟨_, Heap.get?_push_size _ rfl, rfl, rfl⟩, (hl1.push _)⟩ (start _) fun z3 mv hS3 => ?_
          obtain ⟨_, h', tk, rfl, q1, q2⟩ := fin "list" _ hlt z3 mv hS3
          show wpAny _ _ _ _ _ _
          refine wpAny_pure ?_
          show wpAny _ _ (ret Value.none) _ _ _
          exact wpAny_pure ⟨rfl, h', tk, rfl, q1, q2⟩
        · obtain ⟨⟨oc, od, oda, osl⟩, hol, hcl, nl, hdl⟩ := hl
          simp only at hcl hdl
          subst hcl; subst hdl
          have hlt : a < z.heap.objs.size := Heap.lt_size hol
          have hol' := Heap.get?_push_of_some (set0 led) hol
          have hsls := PySem.F.sub_tuple_set
          have hslf := PySem.F.sub_tuple_frozenset
          have hne : (Value.type "tuple" == Value.type "dict") = false := by decide
          have hl1 : (z.heap.push (set0 led)).IsTuple a us := ⟨_, hol', rfl, nl, rfl⟩
          unfold Builtin.«set.__init__» noKeywords Builtin.Frozenset.updateFrom
          generalize hPI : pyIter = PI
          wp_walk
          subst hPI
          refine wpAny_pyIter_tuple hl1 (wpAny_bind (wpAny_runValue ?_))
          have n1 : a ≠ (z.heap.push (set0 led)).objs.size := by rw [Heap.size_push]; exact Nat.ne_of_lt (Nat.lt_succ_of_lt hlt)
          have n2 : z.heap.objs.size ∉ [(z.heap.push (set0 led)).objs.size, a] := by
            rw [Heap.size_push]; simp only [List.mem_cons, List.not_mem_nil, or_false, not_or]; exact ⟨Nat.ne_of_lt (Nat.lt_succ_self _), Nat.ne_of_gt hlt⟩
          refine setT_turns ((Walks.tuple calm3 _ a n1 us).toS) n2 xs hsz (by omega) hval us.size 0 _ (by omega) ⟨⟨_, Heap.get?_push_size _ rfl, rfl, rfl⟩, (hl1.push _)⟩ (start _) fun z3 mv hS3 => ?_
          obtain ⟨_, h', tk, rfl, q1, q2⟩ := fin "tuple" _ hlt z3 mv hS3
          show wpAny _ _ _ _ _ _
          refine wpAny_pure ?_
          show wpAny _ _ (ret Value.none) _ _ _
          exact wpAny_pure ⟨rfl, h', tk, rfl, q1, q2⟩
      · cases r2 with
        | error e => exact hr2
        | ok fl2 =>
          cases fl2 with
          | next => exact hr2.elim
          | brk => exact hr2.elim
          | cont => exact hr2.elim
          | ret r =>
            obtain ⟨rfl, h', tk, rfl, hS', hk'⟩ := hr2
            repeat (any_goals (first | assumption | wp_step))
            exact k _ _ hS' hk'
end
section
variable {X : Cx} {a : Expr} {σ : L2.St} {H : Hp} {Q : VK} {p p2 q pos : Pos}
theorem any_mem (xs : List Str) (k : Str) : (xs.any (· == k)) = true ↔ k ∈ xs := by
  rw [List.any_eq_true]
  exact ⟨fun ⟨x, h, e⟩ => by rw [← beq_iff_eq.mp e]; exact h, fun h => ⟨k, h, beq_self_eq_true k⟩⟩
/-- sorted(set(xs)), xs a list or tuple of texts -/
theorem e_sortedSet (hm : X.mg "sorted" = none) (hm2 : X.mg "set" = none) (h : WE X a σ H fun x H1 => ∃ l, ∃ xs : List Str, x = .ref l ∧ (SqL X.K H1 l (xs.map V.str) ∨ SqT X.K H1 l (xs.map V.str)) ∧ xs.length < 64 ∧
      ∀ (ys : List Str) (t : Addr), sortedS ys = true → ys.Nodup → (∀ k, k ∈ ys ↔ k ∈ xs) → ys.length = cnt xs xs.length → H1 t = none → Q (.ref t) (upd H1 t (.lst (ys.map V.str))))
    (hc : X.calm = true := by rfl) (hg : Gl X "sorted" := by rfl) (hg2 : Gl X "set" := by rfl) (na : starEach [a] X.env = (false, eval a X.env) :: starEach [] X.env := by rfl) :
    WE X (.Call (.Name "sorted" p) [.Call (.Name "set" p2) [a] [] q] [] pos) σ H Q := by
  constructor
  intro pins s I
  refine Call_ (ld_blt I hg hm PyProof.Rows.boot_sorted ?_)
  refine PyProof.Rows.callWith_builtin1 (PyProof.Rows.args_cons ?_ rfl) rfl rfl
  refine Call_ (ld_blt I hg2 hm2 boot_set ?_)
  refine PyProof.Rows.callWith_type1 (PyProof.Rows.args_cons (thn (h.go pins s I) fun v s1 ⟨x, H1, I1, r1, l, xs, e1, hq, hl, q1⟩ => PyProof.Rows.args_nil ?_) na) na rfl
  subst e1
  cases r1
  have fin : ∀ (us : List Value), Vals (xs.map V.str) us → (s1.heap.IsList l us.toArray ∨ s1.heap.IsTuple l us.toArray) →
      wpAny (model X.prog X.w) X.A (call (.type "set") [.ref l]) (fun v s₂ => wpAny (model X.prog X.w) X.A (spliced (backTo pos (starEach [] X.env))) (fun vs s₂ => wpAny (model X.prog X.w) X.A (call (.builtin "sorted") (v :: vs)) (EP X pins σ Q) X.xe s₂) X.xe s₂) X.xe s1 := fun us r hseq => by
    refine make_setT (I1.ok.hd hc) hseq (by simpa using strsAre_of r) (by omega) fun h' tk hS hk => ?_
    refine PyProof.Rows.args_nil ?_
    have I2 : Inv X pins σ H1 { s1 with heap := h', toks := tk } := I1.kept fun b o e => hk b o (Heap.lt_size e) e
    have hcn := cnt_le xs xs.length
    refine sorted_setT hS (I2.ok.hd hc) (by omega) fun s' t out c ys k g o hp ho hi hs hnd hmem hlen => ?_
    have hlen2 : (ys.map V.str).length ≤ sizeLine := by rw [List.length_map, hlen, sizeLine_eq]; omega
    have hn : H1 t = none := I2.hok.fresh hp
    have J : Inv X pins σ (upd H1 t (.lst (ys.map V.str))) { { s1 with heap := h', toks := tk } with heap := s'.heap, gens := s'.gens, drawn := s'.drawn, toks := s'.toks } :=
      I2.call (ch := []) (Un.laid k hp hn) (I2.hok.laid k hp ⟨hlen2, out.toList, c, vals_of_strs hi, ho⟩) (by rw [g]; exact I2.bare) (fun _ z => nomatch z)
    have e : s' = { { s1 with heap := h', toks := tk } with heap := s'.heap, gens := s'.gens, drawn := s'.drawn, toks := s'.toks } := by
      cases s'
      cases s1
      cases o
      rfl
    rw [e]
    refine ⟨.ref t, _, J, rfl, q1 ys t hs hnd (fun k => ?_) hlen hn⟩
    rw [hmem k, List.take_length]
    exact any_mem xs k
  rcases hq with hq | hq
  · obtain ⟨us, r, pl, hz⟩ := I1.list hq
    exact fin us r (.inl pl.isList)
  · obtain ⟨us, r, pl, hz⟩ := I1.tuple hq
    exact fin us r (.inr pl)
end
end My

namespace My
open PySem PySem.Spec PyProof.Rows L2
section
variable {X : Cx} {o e : Expr} {σ : L2.St} {H : Hp} {Q : VK} {D : Ends} {pos apos : Pos}
/-- o.pop(e), a list -/
theorem e_pop (h : WE X o σ H fun x H1 => (∃ l xs, x = .ref l ∧ SqL X.K H1 l xs) ∧ WE X e σ H1 fun y H2 => ∃ l xs i k z, x = .ref l ∧ y = .int i ∧ H2 l = some (.lst xs) ∧ -(2 ^ 63) ≤ i ∧ i < 2 ^ 63 ∧ seqIndex? i xs.length = some k ∧ xs[k]? = some z ∧ Q z (upd H2 l (.lst (xs.eraseIdx k))))
    (hbase : attributeBase o "pop" X.env (eval o X.env) = eval o X.env := by rfl)
    (hfew : ((backTo pos (starEach [e] X.env)).all (fun x => !x.1) && (backToKw pos (keywordEach [] X.env)).all (fun x => x.1.isSome) && decide ([e].length + ([] : List Keyword).length + (if ([] : List Keyword).isEmpty then 0 else 1) < 30)) = true := by rfl)
    (hline : (apos.endLine == pos.line) = true := by rfl) (hs : starEach [e] X.env = (false, eval e X.env) :: starEach [] X.env := by rfl) (hplain : (backTo pos (starEach [] X.env)).any (·.1) = false := by rfl) :
    WE X (.Call (.Attribute o "pop" apos) [e] [] pos) σ H Q :=
  toE (pe_bm PySem.F.plainAttrs_list PySem.F.slot_list_pop PySem.F.type_list_pop mt_popAt pE pA hbase hfew hline hs hplain) (WE.mono h fun x H1 ⟨⟨l, xs, e1, hS⟩, k⟩ => by
    subst e1
    exact ⟨.inl ⟨rfl, _, hS⟩, a_cons (WE.mono k fun y H2 ⟨l', xs', i, k', z, a1, a2, a3, a4, a5, a6, a7, q⟩ => a_nil ⟨l', xs', i, k', z, a1, by rw [a2], a3, a4, a5, a6, a7, q⟩) hs⟩)
/-- o.append(e) as a statement -/
theorem s_app (h : WE X o σ H fun x H1 => (∃ l xs, x = .ref l ∧ SqL X.K H1 l xs) ∧ WE X e σ H1 fun y H2 => ∃ l xs, x = .ref l ∧ H2 l = some (.lst xs) ∧ xs.length < sizeLine ∧ D.nx σ (upd H2 l (.lst (xs ++ [y])))) {pos' : Pos}
    (hbase : attributeBase o "append" X.env (eval o X.env) = eval o X.env := by rfl)
    (hfew : ((backTo pos (starEach [e] X.env)).all (fun x => !x.1) && (backToKw pos (keywordEach [] X.env)).all (fun x => x.1.isSome) && decide ([e].length + ([] : List Keyword).length + (if ([] : List Keyword).isEmpty then 0 else 1) < 30)) = true := by rfl)
    (hline : (apos.endLine == pos.line) = true := by rfl) (hs : starEach [e] X.env = (false, eval e X.env) :: starEach [] X.env := by rfl) (hplain : (backTo pos (starEach [] X.env)).any (·.1) = false := by rfl)
    (hsw : swapsWith (.Call (.Attribute o "append" apos) [e] [] pos) none pos'.line X.env = pure false := by rfl) :
    WS X (.Expr (.Call (.Attribute o "append" apos) [e] [] pos) pos') D σ H :=
  s_expr (toE (pe_bm PySem.F.plainAttrs_list PySem.F.slot_list_append PySem.F.type_list_append mt_append pE pA hbase hfew hline hs hplain) (WE.mono h fun x H1 ⟨⟨l, xs, e1, hS⟩, k⟩ => by
    subst e1
    exact ⟨.inl ⟨rfl, _, hS⟩, a_cons (WE.mono k fun y H2 ⟨l', xs', a1, a3, a4, q⟩ => a_nil ⟨l', xs', y, a1, rfl, a3, a4, q⟩) hs⟩)) hsw
/-- min(a, b) -/
theorem e_min {a b : Expr} {p : Pos} (hm : X.mg "min" = none) (k : WE X a σ H fun x H1 => WE X b σ H1 fun y H2 => ∃ i j, x = .int i ∧ y = .int j ∧ Q (.int (if j < i then j else i)) H2) (hc : X.calm = true := by rfl) (hg : Gl X "min" := by rfl)
    (he : starEach [a, b] X.env = (false, eval a X.env) :: starEach [b] X.env := by rfl) (he2 : starEach [b] X.env = (false, eval b X.env) :: starEach [] X.env := by rfl) (hpl : (backTo pos (starEach [b] X.env)).any (·.1) = false := by rfl) :
    WE X (.Call (.Name "min" p) [a, b] [] pos) σ H Q :=
  e_callB (call_min2 hc) hm PyProof.Rows.boot_min (a_cons (WE.mono k fun x H1 k1 => a_cons (WE.mono k1 fun y H2 ⟨i, j, e1, e2, q⟩ => a_nil ⟨i, j, by rw [e1, e2], q⟩) he2) he) hg (by decide) (by decide) he hpl
/-- sorted(e), a list of texts; tuple(e), a list -/
theorem e_sorted {p : Pos} (hm : X.mg "sorted" = none) (k : WE X e σ H fun x H1 => ∃ (a : Addr) (xs : List Str), x = V.ref a ∧ SqL X.K H1 a (xs.map V.str) ∧ xs.length < 64 ∧ ∀ (ys : List Str) (p : Addr), ys.Perm xs → sortedS ys = true → H1 p = none → Q (.ref p) (upd H1 p (.lst (ys.map V.str)))) (hg : Gl X "sorted" := by rfl)
    (he : starEach [e] X.env = (false, eval e X.env) :: starEach [] X.env := by rfl) (hpl : (backTo pos (starEach [] X.env)).any (·.1) = false := by rfl) : WE X (.Call (.Name "sorted" p) [e] [] pos) σ H Q :=
  e_callB cr_sortedS hm PyProof.Rows.boot_sorted (a_cons (WE.mono k fun x H1 ⟨a, xs, e1, r⟩ => a_nil ⟨a, xs, by rw [e1], r⟩) he) hg (by decide) (by decide) he hpl
theorem e_tupL {p : Pos} (hm : X.mg "tuple" = none) (k : WE X e σ H fun x H1 => ∃ a xs, x = .ref a ∧ SqL X.K H1 a xs ∧ ∀ q, H1 q = none → Q (.ref q) (upd H1 q (.tup xs))) (hg : Gl X "tuple" := by rfl)
    (he : starEach [e] X.env = (false, eval e X.env) :: starEach [] X.env := by rfl) (hpl : (backTo pos (starEach [] X.env)).any (·.1) = false := by rfl) : WE X (.Call (.Name "tuple" p) [e] [] pos) σ H Q :=
  e_callT call_tuple_of hm PyProof.Rows.boot_tuple (a_cons (WE.mono k fun x H1 ⟨a, xs, e1, hS, r⟩ => a_nil ⟨a, xs, by rw [e1], .inl ⟨hS, r⟩⟩) he) hg (by decide) (by decide) he hpl
theorem e_listL {p : Pos} (hm : X.mg "list" = none) (k : WE X e σ H fun x H1 => ∃ a xs, x = .ref a ∧ (SqL X.K H1 a xs ∨ SqT X.K H1 a xs) ∧ ∀ q, H1 q = none → Q (.ref q) (upd H1 q (.lst xs))) (hg : Gl X "list" := by rfl)
    (he : starEach [e] X.env = (false, eval e X.env) :: starEach [] X.env := by rfl) (hpl : (backTo pos (starEach [] X.env)).any (·.1) = false := by rfl) : WE X (.Call (.Name "list" p) [e] [] pos) σ H Q :=
  e_callT call_list_of hm PyProof.Rows.boot_list (a_cons (WE.mono k fun x H1 ⟨a, xs, e1, hS, r⟩ => a_nil ⟨a, xs, by rw [e1], hS, r⟩) he) hg (by decide) (by decide) he hpl
end
section
variable {X : Cx} {σ : L2.St} {H : Hp} {D : Ends} {pos spos py : Pos} {elt tg iter : Expr} {scope : Scope} {x y : Str}
/-- y = [elt for x in range(a)] as a statement -/
theorem s_lcR {a : Expr} {p pc pt : Pos} (i j : Nat) (hm : X.mg "range" = none) (hN : X.N.Nodup) (ok : BlkOk X.N X.env.scope scope [(x, j)])
    (h : WE X a σ H fun v H1 => ∃ n : Nat, v = .int n ∧ n < 2 ^ 62 ∧ ∀ Dn, H1 Dn = none → ∃ Pv : Nat → Hp → Prop, Pv 0 (upd H1 Dn (.lst [])) ∧
      (∀ i H, i < n → Pv i H → WB X scope elt ((wipe σ [j]).set j (some (.int i))) H fun z H4 => ∃ acc, H4 Dn = some (.lst acc) ∧ acc.length < sizeLine ∧ Pv (i + 1) (upd H4 Dn (.lst (acc ++ [z])))) ∧
      ∀ H, Pv n H → D.nx (σ.set i (some (.ref Dn))) H)
    (hg : ∀ (s : Shared) (H : Hp) (C : Addr) (cl : List (Str × Addr)) (fp : List Addr), PG (X.blk s H scope (compEnvC scope cl C X.env) fp) (.Name x pt) (gName j))
    (hsw : swapsWith (.ListComp elt [⟨.Name x pt, .Call (.Name "range" p) [a] [] pc, [], 0⟩] scope pos) (some (.Name y py)) spos.line X.env = pure true)
    (hy : X.N[i]? = some y := by rfl) (hyl : X.env.scope.names.lookup y = some .local := by rfl)
    (hgl : Gl X "range" := by rfl) (hst : starEach [a] X.env = [(false, eval a X.env)] := by rfl)
    (hc : X.calm = true := by rfl) (hs : ∀ z, foldedSetIterable (.Call (.Name "range" p) [a] [] pc) X.env z = pure z := by intro _; rfl) :
    WS X (.Assign [.Name y py] (.ListComp elt [⟨.Name x pt, .Call (.Name "range" p) [a] [] pc, [], 0⟩] scope pos) spos) D σ H :=
  toS (ps_setLc (own := [(x, j)]) (te := WB X scope elt) hc hN hy hyl hsw (pi_range1 hgl hm (pA (es := [a])) hst) ok hg (fun _ _ _ _ _ => pts_nil) (fun s H0 C cl fp => ⟨fun pins s' σ' H' Q' I q => (q s H0 C cl fp).go pins s' I⟩) hs)
    (a_cons (WE.mono h fun v H1 ⟨n, e, hn, k⟩ => a_nil ⟨(n : Int), by rw [e], by omega, by omega, fun Dn nD => by
      obtain ⟨Pv, p0, ps, pd⟩ := k Dn nD
      have en : ((n : Int)).toNat = n := by omega
      rw [en]
      refine lc_range (g := gName j) (tt := tYes) (te := WB X scope elt) (vs := [j]) (σ := σ) Pv p0 (fun i H hi p => ⟨set_wipe σ j _, ?_⟩) pd
      have e0 : (0 : Int) + (i : Int) = (i : Int) := Int.zero_add _
      rw [e0]
      exact ps i H hi p⟩) (by rw [hst]; rfl))
end
theorem at_map {zs : List Str} {d : Nat} (h : d < zs.length) : atI (zs.map V.str) (d : Int) = some (.str zs[d]) := atI_nat (by rw [List.getElem?_map, List.getElem?_eq_getElem h]; rfl)
theorem at_some {xs : List V} {d : Nat} (h : d < xs.length) : atI xs (d : Int) = some xs[d] := atI_nat (List.getElem?_eq_getElem h)
theorem cut_take (xs : List V) (k : Nat) : cutV xs none (some (k : Int)) = xs.take k := by
  unfold cutV
  rw [HT.sIx_none, HT.sIx_nat, List.drop_zero, Nat.sub_zero]
  by_cases h : k ≤ xs.length
  · rw [Nat.min_eq_left h]
  · rw [Nat.min_eq_right (by omega), List.take_length, List.take_of_length_le (by omega)]
section
variable {X : Cx} {es : List Expr} {σ : L2.St} {H : Hp} {U : List V → Hp → Prop} {pos : Pos}
theorem a_str {z : Str} {j} (h : WA X es σ H fun xs H2 => U (.str z :: xs) H2) : WA X (.Constant (.str z) j pos :: es) σ H U := a_cons (e_str h) rfl
end
section
variable {X : Cx} {e h : Expr} {σ : L2.St} {H : Hp} {Q : VK} {pos p2 : Pos}
/-- e[:k] of a tuple, the whole of it or less -/
theorem e_slK (k : WE X e σ H fun x H1 => WE X h σ H1 fun y H2 => ∃ (i : Nat) (a : Addr) (xs : List V), y = .int i ∧ x = .ref a ∧ H2 a = some (.tup xs) ∧ ∀ q H3, Same H2 H3 → H3 q = some (.tup (xs.take i)) → Q (.ref q) H3) :
    WE X (.Subscript e (.Slice none (some h) none p2) pos) σ H Q :=
  toE (pe_slice sl_tupA pE po_none (po_some pE)) (WE.mono k fun x H1 k1 => WE.mono k1 fun y H2 ⟨i, a, xs, e1, e2, ha, q⟩ => ⟨(i : Int), e1, a, xs, e2, .inl (.inl ha), fun hw => q a H2 (Same.refl _) (by
    have h2 := hw.2
    rw [HT.sIx_nat] at h2
    rw [List.take_of_length_le (by omega)]
    exact ha), fun _ p hp => q p _ (same_new hp) (by rw [upd_same, cut_take])⟩)
end
section
variable {X : Cx} {a b : Expr} {σ : L2.St} {H : Hp} {D : Ends} {pos px py pt pt2 : Pos} {x y : Str} {kt k2 : _}
/-- x, y = a, b -/
theorem s_par (i j : Nat) (h : WA X [a, b] σ H fun vs H1 => ∃ v w, vs = [v, w] ∧ D.nx ((σ.set i (some v)).set j (some w)) H1) (hN : X.N.Nodup) (hij : i ≠ j) (hi : X.N[i]? = some x := by rfl) (hj : X.N[j]? = some y := by rfl)
    (hx : X.env.scope.names.lookup x = some .local := by rfl) (hy : X.env.scope.names.lookup y = some .local := by rfl)
    (hw : swappedStores [.Tuple [.Name x px, .Name y py] kt pt] (.Tuple [a, b] k2 pt2) X.env = pure (some [x, y]) := by rfl)
    (hs : swapsWithSole [.Tuple [.Name x px, .Name y py] kt pt] (.Tuple [a, b] k2 pt2) pos.line X.env = pure false := by rfl) (hc : X.calm = true := by rfl) :
    WS X (.Assign [.Tuple [.Name x px, .Name y py] kt pt] (.Tuple [a, b] k2 pt2) pos) D σ H := toS (ps_par hc hN hi hj hij hx hy pA hw hs) h
end
/-! ### texts: signs, slices, joins -/
def Sm (z : Str) : Prop := ∀ c ∈ z.cps.toList, c < 128
theorem Sm.cat {x y : Str} (hx : Sm x) (hy : Sm y) : Sm (x ++ y) := fun c hc => by
  rw [str_cat] at hc
  rcases List.mem_append.mp hc with h | h
  · exact hx c h
  · exact hy c h
theorem sm_of {z : Str} (h : (z.cps.toList.all fun c => decide (c < 128)) = true) : Sm z := fun c hc => of_decide_eq_true (List.all_eq_true.mp h c hc)
theorem sm_empty : Sm Str.empty := fun c hc => by cases hc
theorem sm_join {y : Str} (hy : Sm y) : ∀ {ps : List Str}, (∀ p ∈ ps, Sm p) → Sm (Txt.join y ps) := by
  intro ps h
  rw [TL.join_eq]
  induction ps with
  | nil => exact sm_empty
  | cons x r ih =>
    cases r with
    | nil => exact h x List.mem_cons_self
    | cons z r => exact ((h x List.mem_cons_self).cat hy).cat (ih fun p hp => h p (List.mem_cons_of_mem _ hp))
theorem sm_cut {z : Str} (h : Sm z) (lo hi : Option Int) : Sm (cutS z lo hi) := fun c hc => by
  have hc' : c ∈ (z.cps.toList.drop (HT.sIx z.length 0 lo)).take (HT.sIx z.length z.length hi - HT.sIx z.length 0 lo) := by
    unfold cutS at hc
    simpa using hc
  exact h c (List.mem_of_mem_drop (List.mem_of_mem_take hc'))
theorem sm_one {z : Str} (h : Sm z) {i : Int} {c : Nat} (e : atI z.cps.toList i = some c) : Sm ⟨#[c]⟩ := fun x hx => by
  have ex : x = c := by simpa using hx
  obtain ⟨j, _, hj⟩ := Option.bind_eq_some_iff.mp (show (ixN z.cps.toList.length i).bind (fun j => z.cps.toList[j]?) = some c from e)
  rw [ex]
  exact h c (List.mem_of_getElem? hj)
theorem shown_str {z : Str} (h : Sm z) (l : z.length ≤ 20000) : (PyData.str z).showable = true ∧ (PyData.str z).depth ≤ 60 ∧ (PyData.str z).shown.length ≤ 10 * z.length + 2 :=
  ⟨rfl, Nat.zero_le _, StrLaws.reprText_len z fun c hc => Nat.lt_of_lt_of_le (h c hc) (by decide)⟩
section
variable {X : Cx} {a b c e l lo hi : Expr} {σ : L2.St} {H : Hp} {Q : VK} {pos p2 apos : Pos}
/-- z[i], z[:k], z[k:] -/
theorem e_ixS (k : WE X a σ H fun x H1 => WE X b σ H1 fun y H2 => ∃ z i c, x = .str z ∧ y = .int i ∧ z.length ≤ sizeLine ∧ atI z.cps.toList i = some c ∧ Q (.str ⟨#[c]⟩) H2) (hs : PlainIx b := by exact fun _ _ => rfl) : WE X (.Subscript a b pos) σ H Q := e_ix ix_str k hs
theorem e_slSto (k : WE X e σ H fun x H1 => WE X hi σ H1 fun y H2 => ∃ i z, y = .int i ∧ x = .str z ∧ z.length ≤ sizeLine ∧ Q (.str (cutS z none (some i))) H2) : WE X (.Subscript e (.Slice none (some hi) none p2) pos) σ H Q :=
  toE (pe_slice sl_str pE po_none (po_some pE)) (WE.mono k fun x H1 k1 => WE.mono k1 fun y H2 ⟨i, z, e1, e2, hz, q⟩ => ⟨i, e1, z, e2, hz, q⟩)
theorem e_slSfrom (k : WE X e σ H fun x H1 => WE X lo σ H1 fun y H2 => ∃ i z, y = .int i ∧ x = .str z ∧ z.length ≤ sizeLine ∧ Q (.str (cutS z (some i) none)) H2) : WE X (.Subscript e (.Slice (some lo) none none p2) pos) σ H Q :=
  toE (pe_slice sl_str pE (po_some pE) po_none) (WE.mono k fun x H1 k1 => WE.mono k1 fun y H2 ⟨i, z, e1, e2, hz, q⟩ => ⟨i, e1, z, e2, hz, q⟩)
theorem e_join {o : Expr} (k : WE X o σ H fun sv H1 => ∃ sep : Str, sv = .str sep ∧ WE X e σ H1 fun v H2 => ∃ p, ∃ ys : List Str, v = .ref p ∧ (SqL X.K H2 p (ys.map V.str) ∨ SqT X.K H2 p (ys.map V.str)) ∧ (ys.map (·.length)).sum + ys.length * sep.length ≤ 16777216 ∧ Q (.str (Txt.join sep ys)) H2)
    (hs : starEach [e] X.env = [(false, eval e X.env)] := by rfl) (hbase : attributeBase o "join" X.env (eval o X.env) = eval o X.env := by rfl) (hline : (apos.endLine == pos.line) = true := by rfl) :
    WE X (.Call (.Attribute o "join" apos) [e] [] pos) σ H Q :=
  toE (pe_join pE pE hs hbase hline) (WE.mono k fun sv H1 ⟨sep, es, k1⟩ => ⟨⟨sep, es⟩, WE.mono k1 fun v H2 ⟨p, ys, ev, hS, hl, q⟩ => ⟨sep, p, ys, es, by rw [ev], hS, hl, q⟩⟩)
end
theorem one_len (c : Nat) : (⟨#[c]⟩ : Str).length = 1 := rfl
theorem join0 : ∀ ps : List Str, (Txt.join Str.empty ps).length = (ps.map (·.length)).sum := fun ps => by
  unfold Txt.join
  rw [size_glued]
  show _ + _ * 0 = _
  omega
end My

namespace My
open PySem PySem.Spec PyProof.Rows L2
/-! ### forms and names: the mirrors -/
abbrev letters : Str := "abcdefghijklmnopqrstuvwxyz"
abbrev resv : List Str := ["select", "distinct", "as", "from", "where", "and", "in"]
def letB (c : Nat) : Bool := decide (c ∈ letters.cps.toList)
def valS (z : Str) : Bool := decide (1 ≤ z.length) && decide (z.length ≤ 8) && z.cps.toList.all letB
def valD : PyData → Bool | .str z => valS z | _ => false
def namD : PyData → Bool | .str z => valS z && !decide (z ∈ resv) | _ => false
def tupD (lo hi : Int) (f : PyData → Bool) : PyData → Bool | .tuple ds => decide (lo ≤ ds.length) && decide ((ds.length : Int) ≤ hi) && ds.all f | _ => false
def strOf : PyData → Str | .str z => z | _ => Str.empty
/-- ascending, no two alike -/
def ascS : List Str → Bool
  | x :: y :: r => decide (x.cps.toList < y.cps.toList) && ascS (y :: r)
  | _ => true
def valsD : PyData → Bool | .tuple ds => decide (1 ≤ ds.length) && decide (ds.length ≤ 8) && ds.all valD && ascS (ds.map strOf) | _ => false
/-! sizes -/
mutual
/-- short texts of small signs, ints that can be shown, no dict but {} -/
def okE : PyData → Bool
  | .str z => decide (z.length ≤ 200000) && z.cps.toList.all fun c => decide (c < 128)
  | .int i => (PyData.int i).showable && decide ((PyData.int i).shown.length ≤ 60) && decide ((PyData.int i).shown.cps.toList.head? ≠ some 39)
  | .tuple ds => okEs ds
  | .list ds => okEs ds
  | .none | .bool _ => true
  | .dict kvs => kvs.isEmpty
def okEs : List PyData → Bool
  | [] => true
  | d :: ds => okE d && okEs ds
end
mutual
def szE : PyData → Nat
  | .str x => 10 * x.length + 5
  | .tuple ds => szEs ds + 5
  | .list ds => szEs ds + 5
  | .int _ => 70
  | .none | .bool _ | .dict _ => 5
def szEs : List PyData → Nat
  | [] => 0
  | d :: ds => szE d + 2 + szEs ds
end
theorem okEs_mem : ∀ {ds : List PyData}, okEs ds = true → ∀ d ∈ ds, okE d = true
  | e :: ds, h, d, hd => by
    have h' : (okE e && okEs ds) = true := h
    rw [Bool.and_eq_true] at h'
    rcases List.mem_cons.mp hd with rfl | hd
    · exact h'.1
    · exact okEs_mem h'.2 d hd
theorem okEs_of : ∀ {ds : List PyData}, (∀ d ∈ ds, okE d = true) → okEs ds = true
  | [], _ => rfl
  | e :: ds, h => by
    show (okE e && okEs ds) = true
    rw [h e List.mem_cons_self, okEs_of fun d hd => h d (List.mem_cons_of_mem _ hd)]
    rfl
theorem szEs_mem : ∀ {ds : List PyData} {d : PyData}, d ∈ ds → szE d + 2 ≤ szEs ds
  | e :: ds, d, hd => by
    show szE d + 2 ≤ szE e + 2 + szEs ds
    rcases List.mem_cons.mp hd with rfl | hd
    · omega
    · have := szEs_mem hd
      omega
theorem szEs_append : ∀ (ds es : List PyData), szEs (ds ++ es) = szEs ds + szEs es
  | [], es => by show szEs es = 0 + szEs es; omega
  | d :: ds, es => by
    show szE d + 2 + szEs (ds ++ es) = szE d + 2 + szEs ds + szEs es
    rw [szEs_append ds es]; omega
theorem len_szEs : ∀ ds : List PyData, ds.length ≤ szEs ds
  | [] => Nat.zero_le _
  | d :: ds => by
    have := len_szEs ds
    show ds.length + 1 ≤ szE d + 2 + szEs ds
    omega
theorem depth_mem : ∀ {ds : List PyData} {d : PyData}, d ∈ ds → d.depth ≤ PyData.depthAll ds
  | e :: ds, d, hd => by
    show d.depth ≤ max (PyData.depth e) (PyData.depthAll ds)
    rcases List.mem_cons.mp hd with rfl | hd
    · exact Nat.le_max_left _ _
    · exact Nat.le_trans (depth_mem hd) (Nat.le_max_right _ _)
mutual
theorem shownE_le : ∀ d : PyData, okE d = true → d.shown.length ≤ szE d
  | .none, _ => by decide
  | .bool true, _ => by decide
  | .bool false, _ => by decide
  | .str x, h => by
    have h' : (decide (x.length ≤ 200000) && x.cps.toList.all fun c => decide (c < 128)) = true := h
    rw [Bool.and_eq_true] at h'
    show (reprText x).length ≤ 10 * x.length + 5
    have := StrLaws.reprText_len x (fun c hc => Nat.lt_of_lt_of_le (of_decide_eq_true (List.all_eq_true.mp h'.2 c hc)) (by decide))
    omega
  | .tuple ds, h => by
    show (tupleText (PyData.shownAll ds)).length ≤ szEs ds + 5
    have h1 := tupleText_len_le (PyData.shownAll ds)
    have h2 := shownEs_le ds h
    omega
  | .list ds, h => by
    show (listText (PyData.shownAll ds)).length ≤ szEs ds + 5
    have h1 := listText_len_le (PyData.shownAll ds)
    have h2 := shownEs_le ds h
    omega
  | .int i, h => by
    have h' : ((PyData.int i).showable && decide ((PyData.int i).shown.length ≤ 60) && decide ((PyData.int i).shown.cps.toList.head? ≠ some 39)) = true := h
    rw [Bool.and_eq_true, Bool.and_eq_true] at h'
    exact Nat.le_trans (of_decide_eq_true h'.1.2) (show (60 : Nat) ≤ 70 by decide)
  | .dict [], _ => by decide
  | .dict (_ :: _), h => by cases h
theorem shownEs_le : ∀ ds : List PyData, okEs ds = true → ((PyData.shownAll ds).map (·.length)).sum + 2 * (PyData.shownAll ds).length ≤ szEs ds
  | [], _ => by decide
  | d :: ds, h => by
    have h' : (okE d && okEs ds) = true := h
    simp only [Bool.and_eq_true] at h'
    have h1 := shownE_le d h'.1
    have h2 := shownEs_le ds h'.2
    show (((PyData.shown d) :: PyData.shownAll ds).map (·.length)).sum + 2 * ((PyData.shown d) :: PyData.shownAll ds).length ≤ szE d + 2 + szEs ds
    rw [List.map_cons, List.sum_cons, List.length_cons]
    omega
end
mutual
theorem showableE : ∀ d : PyData, okE d = true → d.showable = true
  | .none, _ => rfl
  | .bool _, _ => rfl
  | .str _, _ => rfl
  | .tuple ds, h => showablesE ds h
  | .list ds, h => showablesE ds h
  | .int i, h => by
    have h' : ((PyData.int i).showable && decide ((PyData.int i).shown.length ≤ 60) && decide ((PyData.int i).shown.cps.toList.head? ≠ some 39)) = true := h
    rw [Bool.and_eq_true, Bool.and_eq_true] at h'
    exact h'.1.1
  | .dict [], _ => rfl
  | .dict (_ :: _), h => by cases h
theorem showablesE : ∀ ds : List PyData, okEs ds = true → PyData.showableAll ds = true
  | [], _ => rfl
  | d :: ds, h => by
    have h' : (okE d && okEs ds) = true := h
    simp only [Bool.and_eq_true] at h'
    show (PyData.showable d && PyData.showableAll ds) = true
    rw [showableE d h'.1, showablesE ds h'.2]
    rfl
end
/-- data of forms -/
def okS (d : PyData) : Bool := okE d && decide (szE d ≤ 16000000) && decide (d.depth ≤ 50)
theorem okS_iff {d : PyData} : okS d = true ↔ okE d = true ∧ szE d ≤ 16000000 ∧ d.depth ≤ 50 := by
  unfold okS
  rw [Bool.and_eq_true, Bool.and_eq_true, decide_eq_true_eq, decide_eq_true_eq]
  exact ⟨fun ⟨⟨a, b⟩, c⟩ => ⟨a, b, c⟩, fun ⟨a, b, c⟩ => ⟨⟨a, b⟩, c⟩⟩
theorem okS_t {ds : List PyData} (h : okS (.tuple ds) = true) : ∀ d ∈ ds, okS d = true := fun d hd => by
  obtain ⟨h1, h2, h3⟩ := okS_iff.mp h
  have h2' : szEs ds + 5 ≤ 16000000 := h2
  have h3' : PyData.depthAll ds + 1 ≤ 50 := h3
  have := szEs_mem hd
  have := depth_mem hd
  exact okS_iff.mpr ⟨okEs_mem h1 d hd, by omega, by omega⟩
theorem okS_l {ds : List PyData} (h : okS (.list ds) = true) : ∀ d ∈ ds, okS d = true := okS_t h
theorem okS_repr {d : PyData} (h : okS d = true) : d.showable = true ∧ d.depth ≤ 60 ∧ d.shown.length ≤ sizeLine := by
  obtain ⟨h1, h2, h3⟩ := okS_iff.mp h
  exact ⟨showableE d h1, by omega, Nat.le_trans (shownE_le d h1) (Nat.le_trans h2 (by decide))⟩
theorem str_line {z : Str} (h : okS (.str z) = true) : z.length ≤ sizeLine := by
  obtain ⟨h1, _⟩ := okS_iff.mp h
  have h' : (decide (z.length ≤ 200000) && z.cps.toList.all fun c => decide (c < 128)) = true := h1
  rw [Bool.and_eq_true] at h'
  exact Nat.le_trans (of_decide_eq_true h'.1) (by decide)
theorem okS_sm {z : Str} (h : okS (.str z) = true) : Sm z := by
  obtain ⟨h1, _⟩ := okS_iff.mp h
  have h' : (decide (z.length ≤ 200000) && z.cps.toList.all fun c => decide (c < 128)) = true := h1
  rw [Bool.and_eq_true] at h'
  exact sm_of h'.2
def spB (f : PyData → Bool) : Sp := fun vs H Q _ => ∃ S v d, vs = [v] ∧ DG S H v d ∧ okS d = true ∧ ∀ H', Same H H' → Q (.bl (f d)) H'
theorem sqL_same {K : PySem.W.Frag} {H H' : Hp} {a : Addr} {xs : List V} (e : Same H H') (h : SqL K H a xs) : SqL K H' a xs := by
  rcases h with (h | ⟨o, h⟩) | h
  · exact .inl (.inl (e _ _ h))
  · exact .inl (.inr ⟨o, e _ _ h⟩)
  · exact .inr h
/-- a dict of the program's top with text keys, read alone -/
def keyZ (e : DictEntry) : Option Str := match e.key with | .str x _ => some x | _ => none
structure KSt (w : World) (K : PySem.W.Frag) (a : Addr) (zs : List Str) : Prop where
  ex : ∃ es n, KDict K w a es n ∧ es.toList.map keyZ = zs.map some
/-- what the top leaves of the names that forms and names use -/
structure Bf (w : World) (K : PySem.W.Frag) (mg : Str → Option Value) : Prop where
  len : mg "len" = none
  isi : mg "isinstance" = none
  str : mg "str" = none
  tuple : mg "tuple" = none
  all : mg "all" = none
  set : mg "set" = none
  sorted : mg "sorted" = none
  most : ∃ t, mg "MOST_LETTERS" = some (.int 8 t)
  mostV : ∃ t, mg "MOST_VALUES" = some (.int 8 t)
  resv : ∃ a, mg "RESERVED" = some (.ref a) ∧ KSt w K a resv
section
variable {X : Cx} {σ : L2.St} {H : Hp} {Q : VK} {pos p pc : Pos} {elt iter : Expr} {scope : Scope} {x : Str}
/-- all([f(x) for x in a tuple]) -/
theorem e_allT {pt : Pos} (j : Nat) (f : PyData → Bool) (hm : X.mg "all" = none) (hN : X.N.Nodup) (okb : BlkOk X.N X.env.scope scope [(x, j)])
    (h : WE X iter σ H fun v H1 => ∃ S ds a xs, v = .ref a ∧ H1 a = some (.tup xs) ∧ DGs S H1 xs ds ∧ ds.length ≤ 200000 ∧
      (∀ d ∈ ds, ∀ u H2, Same H1 H2 → DG S H2 u d → WB X scope elt ((wipe σ [j]).set j (some u)) H2 fun y H3 => y = .bl (f d) ∧ Same H2 H3) ∧ ∀ H2, Same H1 H2 → Q (.bl (ds.all f)) H2)
    (hg : ∀ (s : Shared) (H : Hp) (C : Addr) (cl : List (Str × Addr)) (fp : List Addr), PG (X.blk s H scope (compEnvC scope cl C X.env) fp) (.Name x pt) (gName j))
    (hgl : Gl X "all" := by rfl) (hc : X.calm = true := by rfl) (hs : ∀ z, foldedSetIterable iter X.env z = pure z := by intro _; rfl)
    (he : starEach [.ListComp elt [⟨.Name x pt, iter, [], 0⟩] scope pc] X.env = (false, eval (.ListComp elt [⟨.Name x pt, iter, [], 0⟩] scope pc) X.env) :: starEach [] X.env := by rfl)
    (hpl : (backTo pos (starEach [] X.env)).any (·.1) = false := by rfl) :
    WE X (.Call (.Name "all" p) [.ListComp elt [⟨.Name x pt, iter, [], 0⟩] scope pc] [] pos) σ H Q := by
  refine e_callB (cr_all hc) hm (by decide +kernel) (a_cons ?_ he) hgl (by decide) (by decide) he hpl
  refine e_lcT j hN okb (WE.mono h fun v H1 ⟨S, ds, a, xs, e, ha, hds, h1000, hel, q⟩ => ⟨a, xs, e, .inl (.inl ha), fun D nD => ?_⟩) hg hc hs
  have lx := hds.length
  refine ⟨fun i H' => Same H1 H' ∧ H' D = some (.lst (((ds.take i).map f).map V.bl)), ⟨same_new nD, upd_same⟩, fun i H' hi p => .inl (.inl (p.1 _ _ ha)), fun i y H' hi p => ?_, fun H' p => a_nil ⟨D, (ds.take xs.length).map f, rfl, .inl (.inl p.2), ?_⟩⟩
  · obtain ⟨d, hd, hy⟩ := hds.get hi
    intro s0 H00 C cl fp
    refine WE.mono (hel d (List.mem_of_getElem? hd) y H' p.1 (hy.same p.1) s0 H00 C cl fp) fun z H4 ⟨ez, s4⟩ => ?_
    subst ez
    have lt : i < ds.length := (List.getElem?_eq_some_iff.mp hd).1
    refine ⟨_, s4 _ _ p.2, ?_, same_mut (p.1.trans s4) nD, ?_⟩
    · rw [List.length_map, List.length_map, List.length_take]
      exact Nat.lt_of_lt_of_le (show min i ds.length < 200001 by omega) (by decide)
    · rw [upd_same, List.take_succ_eq_append_getElem lt]
      have e : ds[i] = d := by rw [List.getElem?_eq_getElem lt] at hd; exact Option.some.inj hd
      rw [e, List.map_append, List.map_append]
      rfl
  · rw [lx, List.take_length, List.all_map]
    exact q H' p.1
/-- all([f(c) for c in a text]) -/
theorem e_allS {pt : Pos} (j : Nat) (f : Nat → Bool) (hm : X.mg "all" = none) (hN : X.N.Nodup) (okb : BlkOk X.N X.env.scope scope [(x, j)])
    (h : WE X iter σ H fun v H1 => ∃ z : Str, v = .str z ∧ z.length ≤ 200000 ∧
      (∀ c ∈ z.cps.toList, ∀ H2, Same H1 H2 → WB X scope elt ((wipe σ [j]).set j (some (.str ⟨#[c]⟩))) H2 fun y H3 => y = .bl (f c) ∧ Same H2 H3) ∧ ∀ H2, Same H1 H2 → Q (.bl (z.cps.toList.all f)) H2)
    (hg : ∀ (s : Shared) (H : Hp) (C : Addr) (cl : List (Str × Addr)) (fp : List Addr), PG (X.blk s H scope (compEnvC scope cl C X.env) fp) (.Name x pt) (gName j))
    (hgl : Gl X "all" := by rfl) (hc : X.calm = true := by rfl) (hs : ∀ z, foldedSetIterable iter X.env z = pure z := by intro _; rfl)
    (he : starEach [.ListComp elt [⟨.Name x pt, iter, [], 0⟩] scope pc] X.env = (false, eval (.ListComp elt [⟨.Name x pt, iter, [], 0⟩] scope pc) X.env) :: starEach [] X.env := by rfl)
    (hpl : (backTo pos (starEach [] X.env)).any (·.1) = false := by rfl) :
    WE X (.Call (.Name "all" p) [.ListComp elt [⟨.Name x pt, iter, [], 0⟩] scope pc] [] pos) σ H Q := by
  refine e_callB (cr_all hc) hm (by decide +kernel) (a_cons ?_ he) hgl (by decide) (by decide) he hpl
  refine e_lcS j hN okb (WE.mono h fun v H1 ⟨z, e, hz, hel, q⟩ => ⟨z, e, fun D nD => ?_⟩) hg hc hs
  have hz' : z.cps.toList.length ≤ 200000 := by rw [Array.length_toList]; exact hz
  refine ⟨fun i H' => Same H1 H' ∧ H' D = some (.lst (((z.cps.toList.take i).map f).map V.bl)), ⟨same_new nD, upd_same⟩, fun i c H' hi p => ?_, fun H' p => a_nil ⟨D, (z.cps.toList.take z.cps.size).map f, rfl, .inl (.inl p.2), ?_⟩⟩
  · have hi' : z.cps.toList[i]? = some c := by rw [Array.getElem?_toList]; exact hi
    intro s0 H00 C cl fp
    refine WE.mono (hel c (List.mem_of_getElem? hi') H' p.1 s0 H00 C cl fp) fun u H4 ⟨eu, s4⟩ => ?_
    subst eu
    have lt : i < z.cps.toList.length := (List.getElem?_eq_some_iff.mp hi').1
    refine ⟨_, s4 _ _ p.2, ?_, same_mut (p.1.trans s4) nD, ?_⟩
    · rw [List.length_map, List.length_map, List.length_take]
      exact Nat.lt_of_lt_of_le (show min i z.cps.toList.length < 200001 by omega) (by decide)
    · rw [upd_same, List.take_succ_eq_append_getElem lt]
      have e : z.cps.toList[i] = c := by rw [List.getElem?_eq_getElem lt] at hi'; exact Option.some.inj hi'
      rw [e, List.map_append, List.map_append]
      rfl
  · have e : z.cps.size = z.cps.toList.length := by rw [Array.length_toList]
    rw [e, List.take_length, List.all_map]
    exact q H' p.1
end
section
variable {P : Program} {w : World} {K : PySem.W.Frag} {mg : Str → Option Value} {base : Heap}
/-- the def at g says f of any object -/
structure Says (P : Program) (w : World) (K : PySem.W.Frag) (mg : Str → Option Value) (base : Heap) (k : Nat) (g : Addr) (f : PyData → Bool) : Prop where
  ex : ∃ (fd : FuncData) (ps : List Str), FnOk P w K mg base CX0 k g fd ps (spB f) ∧ PySem.W.keepIn K (.ref g) = true ∧ Binds K fd ps []
def spTO (P : Program) (w : World) (K : PySem.W.Frag) (mg : Str → Option Value) (base : Heap) (k : Nat) : Sp := fun vs H Q _ => ∃ S v d lo hi g f, vs = [v, .int lo, .int hi, .ref g] ∧ Says P w K mg base k g f ∧ hi ≤ 1000 ∧ DG S H v d ∧ okS d = true ∧ ∀ H', Same H H' → Q (.bl (tupD lo hi f d)) H'
end
/-! ### ascending texts -/
abbrev lt (a b : Str) : Prop := a.cps.toList < b.cps.toList
theorem lt_tri {a b : Str} (h : ¬ lt a b) (k : ¬ lt b a) : a = b := str_ext (List.le_antisymm k h)
theorem lt_trans {a b c : Str} (h : lt a b) (k : lt b c) : lt a c := List.lt_trans h k
theorem lt_irr (a : Str) : ¬ lt a a := List.lt_irrefl _
theorem le_trans {a b c : Str} (h : ¬ lt b a) (k : ¬ lt c b) : ¬ lt c a := fun z => by
  by_cases e : a = b
  · subst e; exact k z
  · have : lt a b := by
      by_cases q : lt a b
      · exact q
      · exact absurd (lt_tri q h) e
    exact k (lt_trans z this)
theorem asc_iff : ∀ zs : List Str, ascS zs = true ↔ zs.Pairwise lt
  | [] => by simp [ascS]
  | [x] => by simp [ascS]
  | x :: y :: r => by
    have ih := asc_iff (y :: r)
    show (decide (lt x y) && ascS (y :: r)) = true ↔ _
    rw [Bool.and_eq_true, decide_eq_true_eq, ih, List.pairwise_cons (a := x)]
    constructor
    · rintro ⟨h, k⟩
      refine ⟨fun z hz => ?_, k⟩
      rcases List.mem_cons.mp hz with rfl | hz
      · exact h
      · exact lt_trans h ((List.pairwise_cons.mp k).1 z hz)
    · rintro ⟨h, k⟩
      exact ⟨h y List.mem_cons_self, k⟩
theorem sorted_pw : ∀ (ys : List Str) (x : Str), risingS x ys = true → (x :: ys).Pairwise fun a b => ¬ lt b a
  | [], x, _ => by simp
  | y :: ys, x, h => by
    have h' : (!ltCps y.cps.toList x.cps.toList && risingS y ys) = true := h
    rw [Bool.and_eq_true, ltCps_eq] at h'
    have h1 : ¬ lt y x := by simpa using h'.1
    have ih := sorted_pw ys y h'.2
    refine List.pairwise_cons.mpr ⟨fun z hz => ?_, ih⟩
    rcases List.mem_cons.mp hz with rfl | hz
    · exact h1
    · exact le_trans h1 ((List.pairwise_cons.mp ih).1 z hz)
theorem sortedS_pw {ys : List Str} (h : sortedS ys = true) : ys.Pairwise fun a b => ¬ lt b a := by
  cases ys with
  | nil => exact .nil
  | cons y ys => exact sorted_pw ys y h
theorem asc_eq {zs ys : List Str} (hp : ys.Perm zs) (hs : sortedS ys = true) : (decide (zs = ys) && decide zs.Nodup) = ascS zs := by
  have pw := sortedS_pw hs
  apply Bool.eq_iff_iff.mpr
  rw [Bool.and_eq_true, decide_eq_true_eq, decide_eq_true_eq, asc_iff]
  constructor
  · rintro ⟨e, n⟩
    subst e
    refine (pw.and n).imp fun {a b} ⟨h1, h2⟩ => ?_
    by_cases q : lt a b
    · exact q
    · exact absurd (lt_tri q h1) h2
  · intro h
    have pw2 : zs.Pairwise fun a b => ¬ lt b a := h.imp fun {a b} h1 h2 => lt_irr a (lt_trans h1 h2)
    exact ⟨List.Perm.eq_of_pairwise (fun a b _ _ h1 h2 => lt_tri h2 h1) pw2 pw hp.symm, h.imp (S := fun a b => a ≠ b) fun {a b} h1 h2 => lt_irr a (by rw [← h2] at h1; exact h1)⟩
theorem eqv_strs : ∀ (zs ys : List Str), PyData.eqvAll (zs.map PyData.str) (ys.map PyData.str) = decide (zs = ys)
  | [], [] => rfl
  | [], y :: ys => rfl
  | z :: zs, [] => rfl
  | z :: zs, y :: ys => by
    show ((z == y) && PyData.eqvAll (zs.map PyData.str) (ys.map PyData.str)) = _
    rw [eqv_strs zs ys]
    apply Bool.eq_iff_iff.mpr
    simp
/-! ### data that are texts -/
theorem strs_of {S : Addr → Prop} {H : Hp} : ∀ {xs : List V} {ds : List PyData}, DGs S H xs ds → ds.all valD = true → ds = (ds.map strOf).map PyData.str ∧ xs = (ds.map strOf).map V.str ∧ (ds.map strOf).all valS = true
  | _, _, .nil, _ => ⟨rfl, rfl, rfl⟩
  | _, _, .cons (d := d) h hs, e => by
    have e' : (valD d && _) = true := e
    rw [Bool.and_eq_true] at e'
    obtain ⟨h1, h2, h3⟩ := strs_of hs e'.2
    cases h with
    | str z => exact ⟨by rw [List.map_cons, List.map_cons]; exact congrArg _ h1, by rw [List.map_cons, List.map_cons]; exact congrArg _ h2, by rw [List.map_cons, List.all_cons, h3, Bool.and_true]; exact e'.1⟩
    | _ => exact absurd e'.1 (by simp [valD])
theorem let_small : ∀ c, letB c = true → c < 128 := fun c h => by
  have h' : c ∈ letters.cps.toList := of_decide_eq_true h
  have : ∀ x ∈ letters.cps.toList, x < 128 := by decide +kernel
  exact this c h'
theorem val_small {z : Str} (h : valS z = true) : z.length ≤ 8 ∧ ∀ c ∈ z.cps.toList, c < 128 := by
  unfold valS at h
  simp only [Bool.and_eq_true, decide_eq_true_eq, List.all_eq_true] at h
  exact ⟨h.1.2, fun c hc => let_small c (h.2 c hc)⟩
theorem lay_strs : ∀ {zs : List Str}, zs.all valS = true → PyData.canLayAll0 (zs.map PyData.str) = true
  | [], _ => rfl
  | z :: zs, h => by
    rw [List.all_cons, Bool.and_eq_true] at h
    show (PyData.canLay0 (.str z) && PyData.canLayAll0 (zs.map PyData.str)) = true
    rw [lay_strs h.2, Bool.and_true]
    show (z.cps.all fun c => decide (c < 0x110000)) = true
    rw [← Array.all_toList, List.all_eq_true]
    exact fun c hc => decide_eq_true (Nat.lt_of_lt_of_le ((val_small h.1).2 c hc) (by decide))
theorem depth_strs : ∀ zs : List Str, PyData.depthAll (zs.map PyData.str) = 0
  | [] => rfl
  | z :: zs => by show max 0 (PyData.depthAll (zs.map PyData.str)) = 0; rw [depth_strs zs]; rfl
theorem shaped_strs {zs : List Str} (h : zs.all valS = true) : SeqAt.shaped (.tuple (zs.map PyData.str)) = true := by
  show (PyData.canLayAll0 (zs.map PyData.str) && decide (PyData.depthAll (zs.map PyData.str) + 1 ≤ 64)) = true
  rw [lay_strs h, depth_strs]
  rfl
theorem dps_strs {K : PySem.W.Frag} {H : Hp} : ∀ zs : List Str, DpAll K H (zs.map V.str) (zs.map PyData.str)
  | [] => .nil
  | z :: zs => .cons (.str z) (dps_strs zs)
theorem inV_strs (z : Str) : ∀ zs : List Str, inV (.str z) (zs.map V.str) = decide (z ∈ zs)
  | [] => rfl
  | y :: zs => by
    show ((y == z) || inV (.str z) (zs.map V.str)) = _
    rw [inV_strs z zs]
    apply Bool.eq_iff_iff.mpr
    simp only [Bool.or_eq_true, beq_iff_eq, decide_eq_true_eq, List.mem_cons]
    exact ⟨fun h => h.elim (fun e => .inl e.symm) .inr, fun h => h.elim (fun e => .inl e.symm) .inr⟩
theorem flat_strs' : ∀ zs : List Str, (zs.map V.str).all flatV = true
  | [] => rfl
  | z :: zs => by show (true && (zs.map V.str).all flatV) = true; rw [flat_strs' zs]; rfl
def spDiff (K : PySem.W.Frag) : Sp := fun vs H Q _ => ∃ a, ∃ xs : List Str, vs = [.ref a] ∧ (SqL K H a (xs.map V.str) ∨ SqT K H a (xs.map V.str)) ∧ xs.length ≤ 1000 ∧ Q (.bl (decide xs.Nodup)) H
theorem letters_are : letters.cps.toList = List.range' 97 26 := by decide +kernel
theorem one_lt (a b : Nat) : ([a] : List Nat) < [b] ↔ a < b := by
  constructor
  · intro h
    rcases List.cons_lt_cons_iff.mp h with h | ⟨_, h⟩
    · exact h
    · exact absurd h (List.lt_irrefl _)
  · exact fun h => List.cons_lt_cons_iff.mpr (.inl h)
theorem let_btw (c : Nat) : letB c = (!decide (([c] : List Nat) < [97]) && !decide (([122] : List Nat) < [c])) := by
  unfold letB
  rw [letters_are]
  apply Bool.eq_iff_iff.mpr
  rw [decide_eq_true_eq, List.mem_range'_1, Bool.and_eq_true, Bool.not_eq_true', Bool.not_eq_true', decide_eq_false_iff_not, decide_eq_false_iff_not, one_lt, one_lt]
  omega
theorem asc_range : ∀ zs : List Str, ascS zs = (List.range (zs.length - 1)).all fun k => decide (lt (zs.getD k Str.empty) (zs.getD (k + 1) Str.empty))
  | [] => rfl
  | [x] => rfl
  | x :: y :: r => by
    have ih := asc_range (y :: r)
    show (decide (lt x y) && ascS (y :: r)) = (List.range (r.length + 1)).all _
    rw [ih, List.range_succ_eq_map, List.all_cons, List.all_map]
    rfl
section
variable {X : Cx} {a b c e : Expr} {σ : L2.St} {H : Hp} {Q : VK} {pos p pc pr pcr : Pos} {elt : Expr} {scope : Scope} {x : Str}
/-- x <= e <= y, texts -/
theorem e_btwS (k : WE X a σ H fun x H1 => WE X b σ H1 fun y H2 => ∃ i j, x = .str i ∧ y = .str j ∧ (¬ j.cps.toList < i.cps.toList → WE X c σ H2 fun z H3 => ∃ m, z = .str m ∧ Q (.bl (!decide (m.cps.toList < j.cps.toList))) H3) ∧ (j.cps.toList < i.cps.toList → Q (.bl false) H2))
    (hm : lastMarks [.LtE, .LtE] [b, c] = false := by with_unfolding_all rfl) : WE X (.Compare a [.LtE, .LtE] [b, c] pos) σ H Q :=
  e_chain op_le_str op_le_str (WE.mono k fun x H1 k1 => WE.mono k1 fun y H2 ⟨i, j, e1, e2, h1, h2⟩ => ⟨i, j, e1, e2, !decide (j.cps.toList < i.cps.toList), rfl, by
    by_cases hij : j.cps.toList < i.cps.toList
    · rw [decide_eq_true hij]
      exact h2 hij
    · rw [decide_eq_false hij]
      exact WE.mono (h1 hij) fun z H3 ⟨m, e3, r⟩ => ⟨j, m, e2, e3, r⟩⟩) hm
/-- all([f(k) for k in range(n)]) -/
theorem e_allR {pt : Pos} (j : Nat) (f : Nat → Bool) (hm : X.mg "all" = none) (hr : X.mg "range" = none) (hN : X.N.Nodup) (okb : BlkOk X.N X.env.scope scope [(x, j)])
    (h : WE X a σ H fun v H1 => ∃ n : Nat, v = .int n ∧ n ≤ 200000 ∧ (∀ i, i < n → ∀ H2, Same H1 H2 → WB X scope elt ((wipe σ [j]).set j (some (.int i))) H2 fun y H3 => y = .bl (f i) ∧ Same H2 H3) ∧ ∀ H2, Same H1 H2 → Q (.bl ((List.range n).all f)) H2)
    (hg : ∀ (s : Shared) (H : Hp) (C : Addr) (cl : List (Str × Addr)) (fp : List Addr), PG (X.blk s H scope (compEnvC scope cl C X.env) fp) (.Name x pt) (gName j))
    (hgl : Gl X "all" := by rfl) (hgr : Gl X "range" := by rfl) (hst : starEach [a] X.env = [(false, eval a X.env)] := by rfl) (hc : X.calm = true := by rfl) (hs : ∀ z, foldedSetIterable (.Call (.Name "range" pr) [a] [] pcr) X.env z = pure z := by intro _; rfl)
    (he : starEach [.ListComp elt [⟨.Name x pt, .Call (.Name "range" pr) [a] [] pcr, [], 0⟩] scope pc] X.env = (false, eval (.ListComp elt [⟨.Name x pt, .Call (.Name "range" pr) [a] [] pcr, [], 0⟩] scope pc) X.env) :: starEach [] X.env := by rfl)
    (hpl : (backTo pos (starEach [] X.env)).any (·.1) = false := by rfl) :
    WE X (.Call (.Name "all" p) [.ListComp elt [⟨.Name x pt, .Call (.Name "range" pr) [a] [] pcr, [], 0⟩] scope pc] [] pos) σ H Q := by
  refine e_callB (cr_all hc) hm (by decide +kernel) (a_cons ?_ he) hgl (by decide) (by decide) he hpl
  refine e_lcR j hr hN okb (WE.mono h fun v H1 ⟨n, e, hn, hel, q⟩ => ⟨n, e, by omega, fun D nD => ?_⟩) hg hgr hst hc hs
  refine ⟨fun i H' => Same H1 H' ∧ H' D = some (.lst (((List.range i).map f).map V.bl)), ⟨same_new nD, upd_same⟩, fun i H' hi p => ?_, fun H' p => a_nil ⟨D, (List.range n).map f, rfl, .inl (.inl p.2), ?_⟩⟩
  · intro s0 H00 C cl fp
    refine WE.mono (hel i hi H' p.1 s0 H00 C cl fp) fun u H4 ⟨eu, s4⟩ => ?_
    subst eu
    refine ⟨_, s4 _ _ p.2, ?_, same_mut (p.1.trans s4) nD, ?_⟩
    · rw [List.length_map, List.length_map, List.length_range]
      exact Nat.lt_of_lt_of_le (show i < 200001 by omega) (by decide)
    · rw [upd_same, List.range_succ, List.map_append, List.map_append]
      rfl
  · rw [List.all_map]
    exact q H' p.1
end
def wd (z : Str) : Prop := z.length ≤ 60 ∧ Sm z
def wdB (z : Str) : Bool := decide (z.length ≤ 14) && z.cps.toList.all fun c => decide (c < 128)
theorem wd_of {z : Str} (h : wdB z = true) : z.length ≤ 14 ∧ Sm z := by
  unfold wdB at h
  rw [Bool.and_eq_true] at h
  exact ⟨of_decide_eq_true h.1, sm_of h.2⟩
theorem wds_of {zs : List Str} (h : zs.all wdB = true) : ∀ z ∈ zs, z.length ≤ 14 ∧ Sm z := fun z hz => wd_of (List.all_eq_true.mp h z hz)
end My

namespace My
open PySem PySem.Spec PyProof.Rows L2
/-! ### the pure layer: what an expression gives of data, and nothing else changes -/
abbrev Rho := List (Option PyData)
structure SL (S : Addr → Prop) (H : Hp) (σ : L2.St) (ρ : Rho) : Prop where
  dom : ∀ a, S a → H a ≠ none
  look : ∀ (i : Nat) (d : PyData), ρ[i]? = some (some d) → ∃ v, σ[i]? = some (some v) ∧ DG S H v d
  len : σ.length = ρ.length
section
variable {S : Addr → Prop} {H H' : Hp} {σ : L2.St} {ρ : Rho} {i : Nat} {v : V} {d : PyData}
theorem SL.same (h : SL S H σ ρ) (e : Same H H') : SL S H' σ ρ := ⟨in_same e h.dom, fun i d q => let ⟨v, a, b⟩ := h.look i d q; ⟨v, a, b.same e⟩, h.len⟩
theorem SL.set (h : SL S H σ ρ) (hv : DG S H v d) : SL S H (σ.set i (some v)) (ρ.set i (some d)) := by
  refine ⟨h.dom, fun j e q => ?_, by rw [List.length_set, List.length_set]; exact h.len⟩
  by_cases ij : i = j
  · subst ij
    by_cases lt : i < ρ.length
    · rw [List.getElem?_set_self lt] at q
      cases q
      exact ⟨v, List.getElem?_set_self (by rw [h.len]; exact lt), hv⟩
    · rw [List.getElem?_eq_none (by rw [List.length_set]; omega)] at q
      cases q
  · rw [List.getElem?_set_ne ij] at q
    obtain ⟨u, a, b⟩ := h.look j e q
    exact ⟨u, by rw [List.getElem?_set_ne ij]; exact a, b⟩
theorem SL.wipe (h : SL S H σ ρ) : SL S H (L2.wipe σ [i]) (ρ.set i none) := by
  show SL S H (σ.set i none) (ρ.set i none)
  refine ⟨h.dom, fun j e q => ?_, by rw [List.length_set, List.length_set]; exact h.len⟩
  by_cases ij : i = j
  · subst ij
    by_cases lt : i < ρ.length
    · rw [List.getElem?_set_self lt] at q; cases q
    · rw [List.getElem?_eq_none (by rw [List.length_set]; omega)] at q; cases q
  · rw [List.getElem?_set_ne ij] at q
    obtain ⟨u, a, b⟩ := h.look j e q
    exact ⟨u, by rw [List.getElem?_set_ne ij]; exact a, b⟩
/-- a new object at p that is still written to -/
abbrev And1 (S : Addr → Prop) (p : Addr) : Addr → Prop := fun a => S a ∨ a = p
theorem DG.and1 {o : HO} {p : Addr} (hp : H p = none) (h : DG S H v d) : DG (And1 S p) (L2.upd H p o) v d :=
  h.mono (My.Same.tups (same_new hp)) fun a u n e => ⟨fun z => z.elim n fun z => (by rw [z, hp] at e; cases e), by rw [upd_ne (ne_of_none e hp)]; exact e⟩
theorem SL.and1 {o : HO} {p : Addr} (hp : H p = none) (h : SL S H σ ρ) : SL (And1 S p) (L2.upd H p o) σ ρ :=
  ⟨fun a z => z.elim (fun z => in_same (same_new hp) h.dom a z) fun z w => (by rw [z, upd_same] at w; cases w), fun i d q => let ⟨v, a, b⟩ := h.look i d q; ⟨v, a, b.and1 hp⟩, h.len⟩
theorem DGs.un1 {p : Addr} {vs : List V} {ds : List PyData} (h : DGs (And1 S p) H vs ds) : DGs S H vs ds := h.mono (Tup.refl _) fun a o n e => ⟨fun z => n (.inl z), e⟩
theorem DGs.put {p : Addr} {xs ys : List V} {vs : List V} {ds : List PyData} (hp : H p = some (.lst xs)) (h : DGs (And1 S p) H vs ds) : DGs (And1 S p) (L2.upd H p (.lst ys)) vs ds :=
  h.mono (Tup.set hp) fun a o n e => ⟨n, by rw [upd_ne fun z => n (.inr z)]; exact e⟩
end
section
variable (X : Cx) (ρ : Rho)
def ED (e : Expr) (d : PyData) : Prop := ∀ (S : Addr → Prop) (σ : L2.St) (H : Hp) (Q : VK), SL S H σ ρ → (∀ v H', Same H H' → DG S H' v d → Q v H') → WE X e σ H Q
def TD (e : Expr) (b : Bool) : Prop := ∀ (S : Addr → Prop) (σ : L2.St) (H : Hp) (R : Bool → Hp → Prop), SL S H σ ρ → (∀ H', Same H H' → R b H') → WT X e σ H R
def WD (e : Expr) (b : Bool) : Prop := ∀ (S : Addr → Prop) (σ : L2.St) (H : Hp) (R : Bool → Hp → Prop), SL S H σ ρ → (∀ H', Same H H' → R b H') → WW X e σ H R
def AD (es : List Expr) (ds : List PyData) : Prop := ∀ (S : Addr → Prop) (σ : L2.St) (H : Hp) (U : List V → Hp → Prop), SL S H σ ρ → (∀ vs H', Same H H' → DGs S H' vs ds → U vs H') → WA X es σ H U
end
inductive Out | ret (d : PyData) | nx (ρ : Rho)
def Out.Is (S : Addr → Prop) (H : Hp) (D : Ends) : Out → Prop
  | .ret d => ∀ v H', Same H H' → DG S H' v d → D.rt v H'
  | .nx ρ' => ∀ σ' H', Same H H' → SL S H' σ' ρ' → D.nx σ' H'
def SD (X : Cx) (ρ : Rho) (st : Stmt) (o : Out) : Prop := ∀ (S : Addr → Prop) (σ : L2.St) (H : Hp) (D : Ends), SL S H σ ρ → o.Is S H D → WS X st D σ H
def LD (X : Cx) (ρ : Rho) (l : List Stmt) (o : Out) : Prop := ∀ (S : Addr → Prop) (σ : L2.St) (H : Hp) (D : Ends), SL S H σ ρ → o.Is S H D → WL X l D σ H
/-- the block of a comprehension -/
def BD (X : Cx) (scope : Scope) (ρ : Rho) (e : Expr) (d : PyData) : Prop := ∀ (s : Shared) (H0 : Hp) (C : Addr) (cl : List (Str × Addr)) (fp : List Addr), ED (X.blk s H0 scope (compEnvC scope cl C X.env) fp) ρ e d
section
variable {X : Cx} {ρ : Rho} {a b c e : Expr} {es rest : List Expr} {d d1 d2 : PyData} {ds : List PyData} {pos p p2 p3 pc pt : Pos} {x : Str} {k m : Bool}
theorem d_var (i : Nat) (h : ρ[i]? = some (some d) := by rfl) (hN : X.N[i]? = some x := by rfl) (hv : Vis X.env.scope x := by first | exact Or.inl rfl | exact Or.inr (Or.inl rfl) | exact Or.inr (Or.inr rfl))
    (hd : (x == ("__debug__" : Str)) = false := by decide) (hcd : (x == ("__classdict__" : Str)) = false := by decide) : ED X ρ (.Name x pos) d := fun S σ H Q sl q => by
  obtain ⟨v, e, g⟩ := sl.look i d h
  exact e_var i e (q v H (Same.refl _) g) hN hv hd hcd
theorem d_lit (h : Lit e d) : ED X ρ e d := fun S σ H Q sl q => e_lit h sl.dom q
theorem d_bl {j} (b : Bool) : ED X ρ (.Constant (.bool b) j pos) (.bool b) := d_lit (.bl b)
theorem d_int {j} (i : Int) : ED X ρ (.Constant (.int i) j pos) (.int i) := d_lit (.int i)
theorem d_str {j} (z : Str) : ED X ρ (.Constant (.str z) j pos) (.str z) := d_lit (.str z)
theorem d_non {j} : ED X ρ (.Constant .none j pos) .none := d_lit .non
theorem d_gint {i : Int} (hm : ∃ t, X.mg x = some (.int i t)) (hg : Gl X x := by rfl) (hd : (x == ("__debug__" : Str)) = false := by decide) : ED X ρ (.Name x pos) (.int i) := fun S σ H Q sl q => by
  obtain ⟨t, h⟩ := hm
  exact e_glob (v := .int i) h ⟨_, rfl⟩ (q _ H (Same.refl _) (.int i)) hg hd
theorem d_gstr {z : Str} (hm : ∃ t, X.mg x = some (.str z t)) (hg : Gl X x := by rfl) (hd : (x == ("__debug__" : Str)) = false := by decide) : ED X ρ (.Name x pos) (.str z) := fun S σ H Q sl q => by
  obtain ⟨t, h⟩ := hm
  exact e_glob (v := .str z) h ⟨_, rfl⟩ (q _ H (Same.refl _) (.str z)) hg hd
theorem ad_nil : AD X ρ [] [] := fun S σ H U sl q => a_nil (q [] H (Same.refl _) .nil)
theorem ad_cons (h : ED X ρ e d) (hs : AD X ρ es ds) (he : starEach (e :: es) X.env = (false, eval e X.env) :: starEach es X.env := by rfl) : AD X ρ (e :: es) (d :: ds) := fun S σ H U sl q =>
  a_cons (h S σ H _ sl fun v H1 s1 g1 => hs S σ H1 _ (sl.same s1) fun vs H2 s2 g2 => q (v :: vs) H2 (s1.trans s2) (.cons (g1.same s2) g2)) he
theorem d_tup {kk} (h : AD X ρ es ds) (l : ds.length ≤ 200000) : ED X ρ (.Tuple es kk pos) (.tuple ds) := fun S σ H Q sl q =>
  e_tup (h S σ H _ sl fun vs H1 s1 g1 => ⟨by rw [g1.length]; exact Nat.le_trans l (by decide), fun p hp => q _ _ (s1.trans (same_new hp)) (.tup upd_same (g1.same (same_new hp)))⟩)
theorem d_lst (h : AD X ρ es ds) (l : ds.length ≤ 200000) : ED X ρ (.List es pos) (.list ds) := fun S σ H Q sl q =>
  e_lst (h S σ H _ sl fun vs H1 s1 g1 => ⟨by rw [g1.length]; exact Nat.le_trans l (by decide), fun p hp => q _ _ (s1.trans (same_new hp)) (.lst upd_same (fun z => in_same s1 sl.dom p z hp) (g1.same (same_new hp)))⟩)
/-! and, or, not, if -/
theorem d_and {r : PyData} (h : ED X ρ a (.bool k)) (h1 : k = true → ED X ρ (.BoolOp .And (b :: rest) pos) (.bool m)) : ED X ρ (.BoolOp .And (a :: b :: rest) pos) (.bool (k && m)) := fun S σ H Q sl q =>
  e_and (h S σ H _ sl fun v H1 s1 g1 => by
    cases g1
    refine ⟨k, rfl, fun e => ?_, fun e => ?_⟩
    · rw [e, Bool.true_and] at q
      exact h1 e S σ H1 Q (sl.same s1) fun v H2 s2 g2 => q v H2 (s1.trans s2) g2
    · rw [e, Bool.false_and] at q
      exact q _ H1 s1 (.bl false))
theorem d_or (h : ED X ρ a (.bool k)) (h1 : k = false → ED X ρ (.BoolOp .Or (b :: rest) pos) (.bool m)) : ED X ρ (.BoolOp .Or (a :: b :: rest) pos) (.bool (k || m)) := fun S σ H Q sl q =>
  e_or (h S σ H _ sl fun v H1 s1 g1 => by
    cases g1
    refine ⟨k, rfl, fun e => ?_, fun e => ?_⟩
    · rw [e, Bool.true_or] at q
      exact q _ H1 s1 (.bl true)
    · rw [e, Bool.false_or] at q
      exact h1 e S σ H1 Q (sl.same s1) fun v H2 s2 g2 => q v H2 (s1.trans s2) g2)
theorem d_one {op} (h : ED X ρ a d) : ED X ρ (.BoolOp op [a] pos) d := fun S σ H Q sl q => e_one (h S σ H Q sl q)
theorem d_not (h : ED X ρ a (.bool k)) : ED X ρ (.UnaryOp .Not a pos) (.bool (!k)) := fun S σ H Q sl q => e_not (h S σ H _ sl fun v H1 s1 g1 => by cases g1; exact ⟨k, rfl, q _ H1 s1 (.bl _)⟩)
theorem d_if (h : TD X ρ c k) (h1 : k = true → ED X ρ a d) (h2 : k = false → ED X ρ b d) : ED X ρ (.IfExp c a b pos) d := fun S σ H Q sl q =>
  e_if (h S σ H _ sl fun H1 s1 => ⟨fun e => h1 e S σ H1 Q (sl.same s1) fun v H2 s2 g2 => q v H2 (s1.trans s2) g2, fun e => h2 e S σ H1 Q (sl.same s1) fun v H2 s2 g2 => q v H2 (s1.trans s2) g2⟩)
theorem td_val (h : ED X ρ a (.bool k)) (he : ∀ whole, isTrue a X.env whole = (do let v ← whole; standAt a.pos; holding [v] (truthy v)) := by intro _; rfl) : TD X ρ a k := fun S σ H R sl q =>
  t_val (h S σ H _ sl fun v H1 s1 g1 => by cases g1; exact ⟨k, rfl, q H1 s1⟩) he
theorem td_not (h : TD X ρ a k) : TD X ρ (.UnaryOp .Not a pos) (!k) := fun S σ H R sl q => t_not (h S σ H _ sl fun H1 s1 => q H1 s1)
theorem td_w (h : WD X ρ a k) : TD X ρ a k := fun S σ H R sl q => t_w (h S σ H R sl q)
theorem wd_and (h : TD X ρ a k) (h1 : k = true → WD X ρ (.BoolOp .And (b :: rest) pos) m) : WD X ρ (.BoolOp .And (a :: b :: rest) pos) (k && m) := fun S σ H R sl q =>
  w_and (h S σ H _ sl fun H1 s1 => ⟨fun e => h1 e S σ H1 R (sl.same s1) fun H2 s2 => by rw [e, Bool.true_and] at q; exact q H2 (s1.trans s2), fun e => by rw [e, Bool.false_and] at q; exact q H1 s1⟩)
theorem wd_or (h : TD X ρ a k) (h1 : k = false → WD X ρ (.BoolOp .Or (b :: rest) pos) m) : WD X ρ (.BoolOp .Or (a :: b :: rest) pos) (k || m) := fun S σ H R sl q =>
  w_or (h S σ H _ sl fun H1 s1 => ⟨fun e => by rw [e, Bool.true_or] at q; exact q H1 s1, fun e => h1 e S σ H1 R (sl.same s1) fun H2 s2 => by rw [e, Bool.false_or] at q; exact q H2 (s1.trans s2)⟩)
theorem wd_and1 (h : TD X ρ a k) : WD X ρ (.BoolOp .And [a] pos) k := fun S σ H R sl q => w_and1 (h S σ H R sl q)
theorem wd_or1 (h : TD X ρ a k) : WD X ρ (.BoolOp .Or [a] pos) k := fun S σ H R sl q => w_or1 (h S σ H R sl q)
/-! comparisons -/
def rP (P : PyData → PyData → Bool → Prop) : R2 := fun x y H Q => ∃ S d e b, DG S H x d ∧ DG S H y e ∧ P d e b ∧ Q (.bl b) H
variable {op : CmpOp} {P P' : PyData → PyData → Bool → Prop}
theorem d_cmp (ho : OpR X (compareOp op) (rP P)) (ha : ED X ρ a d1) (hb : ED X ρ b d2) (hp : P d1 d2 k) (hm : behindInMarks op b = false := by first | exact nomark _ | with_unfolding_all rfl) : ED X ρ (.Compare a [op] [b] pos) (.bool k) := fun S σ H Q sl q =>
  e_cmp ho (ha S σ H _ sl fun v H1 s1 g1 => hb S σ H1 _ (sl.same s1) fun u H2 s2 g2 => ⟨S, d1, d2, k, g1.same s2, g2, hp, q _ H2 (s1.trans s2) (.bl k)⟩) hm
theorem td_cmp (ho : OpR X (compareOp op) (rP P)) (ha : ED X ρ a d1) (hb : ED X ρ b d2) (hp : P d1 d2 k) (hm : behindInMarks op b = false := by first | exact nomark _ | with_unfolding_all rfl) : TD X ρ (.Compare a [op] [b] pos) k := fun S σ H R sl q =>
  t_cmp ho (ha S σ H _ sl fun v H1 s1 g1 => hb S σ H1 _ (sl.same s1) fun u H2 s2 g2 => ⟨S, d1, d2, k, g1.same s2, g2, hp, k, rfl, q H2 (s1.trans s2)⟩) hm
def pEqS : PyData → PyData → Bool → Prop := fun d e b => ∃ z, e = .str z ∧ b = eqS d z
def pNeS : PyData → PyData → Bool → Prop := fun d e b => ∃ z, e = .str z ∧ b = !eqS d z
def pInt (f : Int → Int → Bool) : PyData → PyData → Bool → Prop := fun d e b => ∃ i j, d = .int i ∧ e = .int j ∧ b = f i j
def pEqD : PyData → PyData → Bool → Prop := fun d e b => SeqAt.shaped d = true ∧ SeqAt.shaped e = true ∧ b = PyData.eqv d e
def pNeD : PyData → PyData → Bool → Prop := fun d e b => SeqAt.shaped d = true ∧ SeqAt.shaped e = true ∧ b = !PyData.eqv d e
theorem o_eqS (hu : X.A.units + 64 < cLine) : OpR X (compareOp .Eq) (rP pEqS) := fun pins s σ H x y v u Q I rx ry ⟨S, d, e, b, g1, g2, ⟨z, e1, e2⟩, q⟩ => by
  subst e1 e2
  cases g2
  exact op_eqS hu pins s σ H _ _ v u Q I rx ry ⟨S, d, z, g1, rfl, q⟩
theorem o_neS (hu : X.A.units + 64 < cLine) : OpR X (compareOp .NotEq) (rP pNeS) := fun pins s σ H x y v u Q I rx ry ⟨S, d, e, b, g1, g2, ⟨z, e1, e2⟩, q⟩ => by
  subst e1 e2
  cases g2
  exact op_neS hu pins s σ H _ _ v u Q I rx ry ⟨S, d, z, g1, rfl, q⟩
theorem dec_i {i j : Int} : decide (V.int i = V.int j) = decide (i = j) := by
  apply Bool.eq_iff_iff.mpr
  rw [decide_eq_true_eq, decide_eq_true_eq]
  exact ⟨fun e => by injection e, fun e => by rw [e]⟩
theorem o_eqI : OpR X (compareOp .Eq) (rP (pInt fun i j => decide (i = j))) := fun pins s σ H x y v u Q I rx ry ⟨S, d, e, b, g1, g2, ⟨i, j, e1, e2, e3⟩, q⟩ => by
  subst e1 e2 e3
  cases g1; cases g2
  exact op_eq pins s σ H _ _ v u Q I rx ry ⟨rfl, by rw [dec_i]; exact q⟩
theorem o_neI : OpR X (compareOp .NotEq) (rP (pInt fun i j => !decide (i = j))) := fun pins s σ H x y v u Q I rx ry ⟨S, d, e, b, g1, g2, ⟨i, j, e1, e2, e3⟩, q⟩ => by
  subst e1 e2 e3
  cases g1; cases g2
  exact op_ne pins s σ H _ _ v u Q I rx ry ⟨rfl, by rw [dec_i]; exact q⟩
theorem o_lt : OpR X (compareOp .Lt) (rP (pInt fun i j => decide (i < j))) := fun pins s σ H x y v u Q I rx ry ⟨S, d, e, b, g1, g2, ⟨i, j, e1, e2, e3⟩, q⟩ => by
  subst e1 e2 e3
  cases g1; cases g2
  exact op_lt pins s σ H _ _ v u Q I rx ry ⟨i, j, rfl, rfl, q⟩
theorem o_le : OpR X (compareOp .LtE) (rP (pInt fun i j => decide (i ≤ j))) := fun pins s σ H x y v u Q I rx ry ⟨S, d, e, b, g1, g2, ⟨i, j, e1, e2, e3⟩, q⟩ => by
  subst e1 e2 e3
  cases g1; cases g2
  exact op_le pins s σ H _ _ v u Q I rx ry ⟨i, j, rfl, rfl, q⟩
theorem o_gt : OpR X (compareOp .Gt) (rP (pInt fun i j => decide (j < i))) := fun pins s σ H x y v u Q I rx ry ⟨S, d, e, b, g1, g2, ⟨i, j, e1, e2, e3⟩, q⟩ => by
  subst e1 e2 e3
  cases g1; cases g2
  exact op_gt pins s σ H _ _ v u Q I rx ry ⟨i, j, rfl, rfl, q⟩
theorem o_ge : OpR X (compareOp .GtE) (rP (pInt fun i j => decide (j ≤ i))) := fun pins s σ H x y v u Q I rx ry ⟨S, d, e, b, g1, g2, ⟨i, j, e1, e2, e3⟩, q⟩ => by
  subst e1 e2 e3
  cases g1; cases g2
  exact op_ge pins s σ H _ _ v u Q I rx ry ⟨i, j, rfl, rfl, q⟩
mutual
theorem DG.lay {K : PySem.W.Frag} {S : Addr → Prop} {H : Hp} : ∀ {v : V} {d : PyData}, DG S H v d → d.canLay0 = true → Dp K H v d
  | _, _, .non, _ => .non
  | _, _, .bl b, _ => .bl b
  | _, _, .int i, _ => .int i
  | _, _, .str x, _ => .str x
  | _, _, .tup h hs, n => .tup (.inl (.inl h)) (DGs.lay hs n)
  | _, _, .lst h _ hs, n => .lst (.inl (.inl h)) (DGs.lay hs n)
  | _, _, .dct h _ hs, n => by cases n
theorem DGs.lay {K : PySem.W.Frag} {S : Addr → Prop} {H : Hp} : ∀ {vs : List V} {ds : List PyData}, DGs S H vs ds → PyData.canLayAll0 ds = true → DpAll K H vs ds
  | _, _, .nil, _ => .nil
  | _, _, .cons h hs, n => by
    have n' : (_ && _) = true := n
    rw [Bool.and_eq_true] at n'
    exact .cons (DG.lay h n'.1) (DGs.lay hs n'.2)
end
theorem o_eqD (hu : X.A.units + 64 < cLine) : OpR X (compareOp .Eq) (rP pEqD) := fun pins s σ H x y v u Q I rx ry ⟨S, d, e, b, g1, g2, ⟨e1, e2, e3⟩, q⟩ => by
  subst e3
  exact op_eqD hu pins s σ H _ _ v u Q I rx ry ⟨d, e, g1.lay (SeqAt.canLay_of_shaped e1), g2.lay (SeqAt.canLay_of_shaped e2), e1, e2, q⟩
theorem o_neD (hu : X.A.units + 64 < cLine) : OpR X (compareOp .NotEq) (rP pNeD) := fun pins s σ H x y v u Q I rx ry ⟨S, d, e, b, g1, g2, ⟨e1, e2, e3⟩, q⟩ => by
  subst e3
  exact op_neD hu pins s σ H _ _ v u Q I rx ry ⟨d, e, g1.lay (SeqAt.canLay_of_shaped e1), g2.lay (SeqAt.canLay_of_shaped e2), e1, e2, q⟩
/-- a <= b <= c, ints -/
theorem td_btw {i j l : Int} (ha : ED X ρ a (.int i)) (hb : ED X ρ b (.int j)) (hc : i ≤ j → ED X ρ c (.int l)) (hm : lastMarks [.LtE, .LtE] [b, c] = false := by with_unfolding_all rfl) : TD X ρ (.Compare a [.LtE, .LtE] [b, c] pos) (decide (i ≤ j) && decide (j ≤ l)) := fun S σ H R sl q =>
  t_btw (ha S σ H _ sl fun v H1 s1 g1 => hb S σ H1 _ (sl.same s1) fun u H2 s2 g2 => by
    cases g1; cases g2
    refine ⟨i, j, rfl, rfl, fun h => hc h S σ H2 _ (sl.same (s1.trans s2)) fun w H3 s3 g3 => ?_, fun h => ?_⟩
    · cases g3
      rw [decide_eq_true h, Bool.true_and] at q
      exact ⟨l, rfl, q H3 (s1.trans (s2.trans s3))⟩
    · rw [decide_eq_false h, Bool.false_and] at q
      exact q H2 (s1.trans s2)) hm
def isNone : PyData → Bool | .none => true | _ => false
theorem d_isN {j} (h : ED X ρ a d) : ED X ρ (.Compare a [.Is] [.Constant .none j p] pos) (.bool (isNone d)) := fun S σ H Q sl q =>
  e_cmp op_isN (h S σ H _ sl fun v H1 s1 g1 => e_non ⟨rfl, by
    have e : decide (v = V.non) = isNone d := by cases g1 <;> rfl
    rw [e]
    exact q _ H1 s1 (.bl _)⟩) (by first | exact nomark _ | rfl)
theorem td_isN {j} (h : ED X ρ a d) : TD X ρ (.Compare a [.Is] [.Constant .none j p] pos) (isNone d) := fun S σ H R sl q =>
  t_cmp op_isN (h S σ H _ sl fun v H1 s1 g1 => e_non ⟨rfl, by
    have e : decide (v = V.non) = isNone d := by cases g1 <;> rfl
    rw [e]
    exact ⟨_, rfl, q H1 s1⟩⟩) (by first | exact nomark _ | rfl)
/-! built-ins -/
theorem d_isTup (hi : X.mg "isinstance" = none) (hT : X.mg "tuple" = none) (h : ED X ρ e d) (hg : Gl X "isinstance" := by rfl) (hgT : Gl X "tuple" := by rfl)
    (he : starEach [e, .Name "tuple" p2] X.env = (false, eval e X.env) :: starEach [.Name "tuple" p2] X.env := by rfl) : ED X ρ (.Call (.Name "isinstance" p) [e, .Name "tuple" p2] [] pos) (.bool (isTup d)) := fun S σ H Q sl q =>
  e_isi hi hT PyProof.Rows.boot_tuple (h S σ H _ sl fun v H1 s1 g1 => ⟨tyD d, isTup d, g1.ty, kit_tup d, q _ H1 s1 (.bl _)⟩) hg hgT (by decide) (by decide) he rfl rfl
theorem d_isStr (hi : X.mg "isinstance" = none) (hT : X.mg "str" = none) (h : ED X ρ e d) (hg : Gl X "isinstance" := by rfl) (hgT : Gl X "str" := by rfl)
    (he : starEach [e, .Name "str" p2] X.env = (false, eval e X.env) :: starEach [.Name "str" p2] X.env := by rfl) : ED X ρ (.Call (.Name "isinstance" p) [e, .Name "str" p2] [] pos) (.bool (isStr d)) := fun S σ H Q sl q =>
  e_isi hi hT PyProof.Rows.boot_str (h S σ H _ sl fun v H1 s1 g1 => ⟨tyD d, isStr d, g1.ty, kit_str d, q _ H1 s1 (.bl _)⟩) hg hgT (by decide) (by decide) he rfl rfl
theorem d_isBool (hi : X.mg "isinstance" = none) (hT : X.mg "bool" = none) (h : ED X ρ e d) (hg : Gl X "isinstance" := by rfl) (hgT : Gl X "bool" := by rfl)
    (he : starEach [e, .Name "bool" p2] X.env = (false, eval e X.env) :: starEach [.Name "bool" p2] X.env := by rfl) : ED X ρ (.Call (.Name "isinstance" p) [e, .Name "bool" p2] [] pos) (.bool (isBoo d)) := fun S σ H Q sl q =>
  e_isi hi hT (by decide +kernel) (h S σ H _ sl fun v H1 s1 g1 => ⟨tyD d, isBoo d, g1.ty, kit_boo d, q _ H1 s1 (.bl _)⟩) hg hgT (by decide) (by decide) he rfl rfl
theorem DG.seq {K : PySem.W.Frag} {S : Addr → Prop} {H : Hp} {v : V} {ds : List PyData} (h : DG S H v (.tuple ds)) : ∃ a xs, v = .ref a ∧ H a = some (.tup xs) ∧ DGs S H xs ds ∧ SqT K H a xs := by
  cases h with | tup h hs => exact ⟨_, _, rfl, h, hs, .inl (.inl h)⟩
theorem DG.seqL {K : PySem.W.Frag} {S : Addr → Prop} {H : Hp} {v : V} {ds : List PyData} (h : DG S H v (.list ds)) : ∃ a xs, v = .ref a ∧ H a = some (.lst xs) ∧ DGs S H xs ds ∧ SqL K H a xs := by
  cases h with | lst h _ hs => exact ⟨_, _, rfl, h, hs, .inl (.inl h)⟩
theorem d_len (hm : X.mg "len" = none) (h : ED X ρ e (.tuple ds)) (hg : Gl X "len" := by rfl)
    (he : starEach [e] X.env = (false, eval e X.env) :: starEach [] X.env := by rfl) : ED X ρ (.Call (.Name "len" p) [e] [] pos) (.int ds.length) := fun S σ H Q sl q =>
  e_len hm (h S σ H _ sl fun v H1 s1 g1 => by
    obtain ⟨a, xs, rfl, _, hs, sq⟩ := g1.seq (K := X.K)
    exact ⟨a, xs, rfl, .inr sq, by rw [hs.length]; exact q _ H1 s1 (.int _)⟩) hg he rfl
theorem d_lenL (hm : X.mg "len" = none) (h : ED X ρ e (.list ds)) (hg : Gl X "len" := by rfl)
    (he : starEach [e] X.env = (false, eval e X.env) :: starEach [] X.env := by rfl) : ED X ρ (.Call (.Name "len" p) [e] [] pos) (.int ds.length) := fun S σ H Q sl q =>
  e_len hm (h S σ H _ sl fun v H1 s1 g1 => by
    obtain ⟨a, xs, rfl, _, hs, sq⟩ := g1.seqL (K := X.K)
    exact ⟨a, xs, rfl, .inl sq, by rw [hs.length]; exact q _ H1 s1 (.int _)⟩) hg he rfl
theorem d_lenS {z : Str} (hm : X.mg "len" = none) (hz : z.length ≤ sizeLine) (h : ED X ρ e (.str z)) (hg : Gl X "len" := by rfl)
    (he : starEach [e] X.env = (false, eval e X.env) :: starEach [] X.env := by rfl) : ED X ρ (.Call (.Name "len" p) [e] [] pos) (.int z.length) := fun S σ H Q sl q =>
  e_lenS hm (h S σ H _ sl fun v H1 s1 g1 => by cases g1; exact ⟨z, rfl, hz, q _ H1 s1 (.int _)⟩) hg he rfl
theorem d_ix {i : Nat} (ha : ED X ρ a (.tuple ds)) (hb : ED X ρ b (.int i)) (hi : ds[i]? = some d) (hs : PlainIx b := by exact fun _ _ => rfl) : ED X ρ (.Subscript a b pos) d := fun S σ H Q sl q =>
  e_ixT (ha S σ H _ sl fun v H1 s1 g1 => hb S σ H1 _ (sl.same s1) fun u H2 s2 g2 => by
    cases g2
    obtain ⟨a, xs, rfl, _, hs, sq⟩ := (g1.same s2).seq (K := X.K)
    obtain ⟨w, hw, gw⟩ : ∃ w, xs[i]? = some w ∧ DG S H2 w d := by
      have hl := hs.length
      have lt : i < xs.length := by rw [hl]; exact (List.getElem?_eq_some_iff.mp hi).1
      obtain ⟨d', e1, e2⟩ := hs.get (List.getElem?_eq_getElem lt)
      rw [hi] at e1
      cases e1
      exact ⟨_, List.getElem?_eq_getElem lt, e2⟩
    exact ⟨a, xs, i, w, rfl, rfl, sq, atI_nat hw, q _ H2 (s1.trans s2) gw⟩) hs
theorem d_ixL {i : Nat} (ha : ED X ρ a (.list ds)) (hb : ED X ρ b (.int i)) (hi : ds[i]? = some d) (hs : PlainIx b := by exact fun _ _ => rfl) : ED X ρ (.Subscript a b pos) d := fun S σ H Q sl q =>
  e_ixL (ha S σ H _ sl fun v H1 s1 g1 => hb S σ H1 _ (sl.same s1) fun u H2 s2 g2 => by
    cases g2
    obtain ⟨a, xs, rfl, _, hs, sq⟩ := (g1.same s2).seqL (K := X.K)
    obtain ⟨w, hw, gw⟩ : ∃ w, xs[i]? = some w ∧ DG S H2 w d := by
      have hl := hs.length
      have lt : i < xs.length := by rw [hl]; exact (List.getElem?_eq_some_iff.mp hi).1
      obtain ⟨d', e1, e2⟩ := hs.get (List.getElem?_eq_getElem lt)
      rw [hi] at e1
      cases e1
      exact ⟨_, List.getElem?_eq_getElem lt, e2⟩
    exact ⟨a, xs, i, w, rfl, rfl, sq, atI_nat hw, q _ H2 (s1.trans s2) gw⟩) hs
theorem d_repr (hm : X.mg "repr" = none) (hG : X.A.guards = some []) (hu : X.A.units + 64 < cLine) (h : ED X ρ e d) (hd : d.showable = true ∧ d.depth ≤ 60 ∧ d.shown.length ≤ sizeLine) (hg : Gl X "repr" := by rfl)
    (he : starEach [e] X.env = (false, eval e X.env) :: starEach [] X.env := by rfl) : ED X ρ (.Call (.Name "repr" p) [e] [] pos) (.str d.shown) := fun S σ H Q sl q =>
  e_reprA hm hG hu (h S σ H _ sl fun v H1 s1 g1 => ⟨S, d, g1, hd.1, hd.2.1, hd.2.2, q _ H1 s1 (.str _)⟩) hg he rfl
theorem d_tupL (hm : X.mg "tuple" = none) (h : ED X ρ e (.list ds)) (hg : Gl X "tuple" := by rfl)
    (he : starEach [e] X.env = (false, eval e X.env) :: starEach [] X.env := by rfl) : ED X ρ (.Call (.Name "tuple" p) [e] [] pos) (.tuple ds) := fun S σ H Q sl q =>
  e_tupL hm (h S σ H _ sl fun v H1 s1 g1 => by
    obtain ⟨a, xs, rfl, _, hs, sq⟩ := g1.seqL (K := X.K)
    exact ⟨a, xs, rfl, sq, fun t ht => q _ _ (s1.trans (same_new ht)) (.tup upd_same (hs.same (same_new ht)))⟩) hg he rfl
theorem d_listT (hm : X.mg "list" = none) (h : ED X ρ e (.tuple ds)) (hg : Gl X "list" := by rfl)
    (he : starEach [e] X.env = (false, eval e X.env) :: starEach [] X.env := by rfl) : ED X ρ (.Call (.Name "list" p) [e] [] pos) (.list ds) := fun S σ H Q sl q =>
  e_listL hm (h S σ H _ sl fun v H1 s1 g1 => by
    obtain ⟨a, xs, rfl, _, hs, sq⟩ := g1.seq (K := X.K)
    exact ⟨a, xs, rfl, .inr sq, fun t ht => q _ _ (s1.trans (same_new ht)) (.lst upd_same (fun z => in_same s1 sl.dom t z ht) (hs.same (same_new ht)))⟩) hg he rfl
theorem bools_of {S : Addr → Prop} {H : Hp} : ∀ {xs : List V} {bs : List Bool}, DGs S H xs (bs.map PyData.bool) → xs = bs.map V.bl
  | _, [], .nil => rfl
  | _, b :: bs, .cons h hs => by
    cases h
    rw [bools_of hs]; rfl
theorem strsE {S : Addr → Prop} {H : Hp} : ∀ {xs : List V} {zs : List Str}, DGs S H xs (zs.map PyData.str) → xs = zs.map V.str
  | _, [], .nil => rfl
  | _, z :: zs, .cons h hs => by
    cases h
    rw [strsE hs]; rfl
theorem d_all {bs : List Bool} (hm : X.mg "all" = none) (h : ED X ρ e (.list (bs.map PyData.bool))) (hgl : Gl X "all" := by rfl) (hc : X.calm = true := by rfl)
    (he : starEach [e] X.env = (false, eval e X.env) :: starEach [] X.env := by rfl) : ED X ρ (.Call (.Name "all" p) [e] [] pos) (.bool (bs.all id)) := fun S σ H Q sl q =>
  e_callB (cr_all hc) hm (by decide +kernel) (a_cons (h S σ H _ sl fun v H1 s1 g1 => by
    obtain ⟨a, xs, rfl, _, hs, sq⟩ := g1.seqL (K := X.K)
    rw [bools_of hs] at sq
    exact a_nil ⟨a, bs, rfl, sq, q _ H1 s1 (.bl _)⟩) he) hgl (by decide) (by decide) he rfl
theorem d_any {bs : List Bool} (hm : X.mg "any" = none) (h : ED X ρ e (.list (bs.map PyData.bool))) (hgl : Gl X "any" := by rfl) (hc : X.calm = true := by rfl)
    (he : starEach [e] X.env = (false, eval e X.env) :: starEach [] X.env := by rfl) : ED X ρ (.Call (.Name "any" p) [e] [] pos) (.bool (bs.any id)) := fun S σ H Q sl q =>
  e_callB (cr_any hc) hm (by decide +kernel) (a_cons (h S σ H _ sl fun v H1 s1 g1 => by
    obtain ⟨a, xs, rfl, _, hs, sq⟩ := g1.seqL (K := X.K)
    rw [bools_of hs] at sq
    exact a_nil ⟨a, bs, rfl, sq, q _ H1 s1 (.bl _)⟩) he) hgl (by decide) (by decide) he rfl
/-- len(set(..)) of texts -/
theorem d_lenSet {zs : List Str} (hm : X.mg "len" = none) (hm2 : X.mg "set" = none) (h : ED X ρ a (.list (zs.map PyData.str)) ∨ ED X ρ a (.tuple (zs.map PyData.str))) (hl : zs.length ≤ 1000) (hc : X.calm = true := by rfl) (hg : Gl X "len" := by rfl) (hg2 : Gl X "set" := by rfl)
    (na : starEach [a] X.env = (false, eval a X.env) :: starEach [] X.env := by rfl) : ED X ρ (.Call (.Name "len" p) [.Call (.Name "set" p2) [a] [] p3] [] pos) (.int (cnt zs zs.length)) := fun S σ H Q sl q => by
  refine e_lenSet hm hm2 ?_ hc hg hg2 na
  rcases h with h | h
  · exact h S σ H _ sl fun v H1 s1 g1 => by
      obtain ⟨a, xs, rfl, _, hs, sq⟩ := g1.seqL (K := X.K)
      rw [strsE hs] at sq
      exact ⟨a, zs, rfl, .inl sq, hl, q _ H1 s1 (.int _)⟩
  · exact h S σ H _ sl fun v H1 s1 g1 => by
      obtain ⟨a, xs, rfl, _, hs, sq⟩ := g1.seq (K := X.K)
      rw [strsE hs] at sq
      exact ⟨a, zs, rfl, .inr sq, hl, q _ H1 s1 (.int _)⟩
/-! list comprehensions over a tuple, a list -/
section
variable {elt iter : Expr} {scope : Scope}
theorem d_lcT {n : Nat} (j : Nat) (f : PyData → PyData) (hN : X.N.Nodup) (okb : BlkOk X.N X.env.scope scope [(x, j)]) (h : ED X ρ iter (.tuple ds)) (l : ds.length ≤ 200000) (hel : ∀ d ∈ ds, BD X scope (ρ.set j (some d)) elt (f d))
    (hg : ∀ (s : Shared) (H : Hp) (C : Addr) (cl : List (Str × Addr)) (fp : List Addr), PG (X.blk s H scope (compEnvC scope cl C X.env) fp) (.Name x pt) (gName j))
    (hc : X.calm = true := by rfl) (hs : ∀ z, foldedSetIterable iter X.env z = pure z := by intro _; rfl) : ED X ρ (.ListComp elt [⟨.Name x pt, iter, [], 0⟩] scope pos) (.list (ds.map f)) := fun S σ H Q sl q => by
  refine e_lcT j hN okb (h S σ H _ sl fun v H1 s1 g1 => ?_) hg hc hs
  obtain ⟨a, xs, rfl, ha, hds, sq⟩ := g1.seq (K := X.K)
  refine ⟨a, xs, rfl, sq, fun D nD => ?_⟩
  have sl1 := sl.same s1
  have slD := sl1.and1 (o := .lst []) nD
  have hdsD := hds.mono (T := And1 S D) (My.Same.tups (same_new (o := .lst []) nD)) fun a u n e => ⟨fun z => z.elim n fun z => (by rw [z, nD] at e; cases e), by rw [upd_ne (ne_of_none e nD)]; exact e⟩
  have lx := hds.length
  refine ⟨fun i H' => ∃ ys, (∀ b o, b ≠ D → (L2.upd H1 D (.lst [])) b = some o → H' b = some o) ∧ H' D = some (.lst ys) ∧ ys.length = i ∧ DGs (And1 S D) H' ys ((ds.take i).map f), ?_, ?_, ?_, ?_⟩
  · exact ⟨[], fun b o _ e => e, upd_same, rfl, .nil⟩
  · rintro i H' _ ⟨ys, k1, _⟩
    exact .inl (.inl (k1 a _ (ne_of_none ha nD) (same_new nD _ _ ha)))
  · rintro i y H' hi ⟨ys, k1, k2, k3, k4⟩ s0 H00 C cl fp
    obtain ⟨d, hd, hy⟩ := hdsD.get hi
    have keep : ∀ {v : V} {d : PyData}, DG (And1 S D) (L2.upd H1 D (.lst [])) v d → DG (And1 S D) H' v d := fun g => g.mono (fun b xs e => k1 b _ (ne_of e upd_same (fun z => by cases z)) e) fun a o n e => ⟨n, k1 a o (fun z => n (.inr z)) e⟩
    have slp : SL (And1 S D) H' σ ρ := ⟨fun b z w => by
      cases e : (L2.upd H1 D (.lst [])) b with
      | none => exact slD.dom b z e
      | some o =>
        by_cases bD : b = D
        · rw [bD, k2] at w; cases w
        · (rw [k1 b o bD e] at w; cases w), fun i d q => let ⟨v, a, b⟩ := slD.look i d q; ⟨v, a, keep b⟩, slD.len⟩
    have sl2 := SL.set (i := j) slp (keep hy)
    have ew : (L2.wipe σ [j]).set j (some y) = σ.set j (some y) := by show (σ.set j none).set j (some y) = _; rw [List.set_set]
    rw [ew]
    refine hel d (List.mem_of_getElem? hd) s0 H00 C cl fp (And1 S D) _ H' _ sl2 fun z H4 s4 g4 => ?_
    have h4 := s4 _ _ k2
    refine ⟨ys, h4, by rw [k3]; exact Nat.lt_of_lt_of_le (show i < 200001 by have := (List.getElem?_eq_some_iff.mp hd).1; omega) (by decide), ys ++ [z], fun b o n e => ?_, upd_same, by rw [List.length_append, k3]; rfl, ?_⟩
    · rw [upd_ne n]; exact s4 _ _ (k1 b o n e)
    · have lt : i < ds.length := (List.getElem?_eq_some_iff.mp hd).1
      have e : ds[i] = d := by rw [List.getElem?_eq_getElem lt] at hd; exact Option.some.inj hd
      rw [List.take_succ_eq_append_getElem lt, List.map_append, e]
      exact ((k4.same s4).append (.cons g4 .nil)).put h4
  · rintro H' ⟨ys, k1, k2, k3, k4⟩
    rw [lx, List.take_length] at k4
    refine q _ H' (s1.trans fun b o e => k1 b o (ne_of_none e nD) (same_new nD b o e)) (.lst k2 (fun z => sl1.dom D z nD) k4.un1)
end
/-! calls of defs by their promise on data -/
def spD (F : List PyData → Option PyData) : Sp := fun vs H Q _ => ∃ S ds d, DGs S H vs ds ∧ (∀ a, S a → H a ≠ none) ∧ F ds = some d ∧ ∀ v H', Same H H' → DG S H' v d → Q v H'
theorem d_call {kk j : Nat} {F : List PyData → Option PyData} (cF : CalN X.prog X.w X.K X.mg X.base kk x (spD F)) (hr : Room j X.A) (hk : kk ≤ j) (h : AD X ρ (e :: es) ds) (hF : F ds = some d) (hg : Gl X x := by rfl)
    (hdb : (x == ("__debug__" : Str)) = false := by decide) (he : starEach (e :: es) X.env = (false, eval e X.env) :: starEach es X.env := by rfl) (hpl : (backTo pos (starEach es X.env)).any (·.1) = false := by rfl) : ED X ρ (.Call (.Name x p) (e :: es) [] pos) d := fun S σ H Q sl q =>
  e_c cF hr hk (h S σ H _ sl fun vs H1 s1 g1 => by
    rw [List.append_nil]
    exact ⟨S, ds, d, g1, in_same s1 sl.dom, hF, fun v H2 s2 g2 => q v H2 (s1.trans s2) g2⟩) hg hdb he hpl
/-! statements -/
variable {st : Stmt} {l l1 l2 : List Stmt} {o : Out} {ρ1 : Rho}
theorem ld_nil : LD X ρ [] (.nx ρ) := fun S σ H D sl q => l_nil (q σ H (Same.refl _) sl)
theorem ld_cons (h : SD X ρ st (.nx ρ1)) (hs : LD X ρ1 l o) : LD X ρ (st :: l) o := fun S σ H D sl q =>
  l_cons (h S σ H _ sl fun σ1 H1 s1 sl1 => hs S σ1 H1 D sl1 (by
    cases o with
    | ret d => exact fun v H2 s2 g2 => q v H2 (s1.trans s2) g2
    | nx ρ2 => exact fun σ2 H2 s2 g2 => q σ2 H2 (s1.trans s2) g2))
theorem ld_end (h : SD X ρ st (.ret d)) : LD X ρ (st :: l) (.ret d) := fun S σ H D sl q => l_cons (h S σ H _ sl fun v H1 s1 g1 => q v H1 s1 g1)
theorem sd_ret (h : ED X ρ e d) : SD X ρ (.Return (some e) pos) (.ret d) := fun S σ H D sl q => s_ret (h S σ H _ sl q)
theorem sd_if (h : TD X ρ c k) (h1 : k = true → LD X ρ l1 o) (h2 : k = false → LD X ρ l2 o) : SD X ρ (.If c l1 l2 pos) o := fun S σ H D sl q =>
  s_if (h S σ H _ sl fun H1 s1 => by
    have q1 : o.Is S H1 D := by
      cases o with
      | ret d => exact fun v H2 s2 g2 => q v H2 (s1.trans s2) g2
      | nx ρ2 => exact fun σ2 H2 s2 g2 => q σ2 H2 (s1.trans s2) g2
    exact ⟨fun e => h1 e S σ H1 D (sl.same s1) q1, fun e => h2 e S σ H1 D (sl.same s1) q1⟩)
/-- if c: return d1 -/
theorem ld_ifret (h : TD X ρ c k) (h1 : k = true → LD X ρ l1 (.ret d)) (h2 : k = false → LD X ρ l (.ret d)) : LD X ρ (.If c l1 [] pos :: l) (.ret d) := by
  cases k with
  | true => exact ld_end (sd_if h h1 (fun e => by cases e))
  | false => exact ld_cons (sd_if h (fun e => by cases e) fun _ => ld_nil) (h2 rfl)
theorem sd_set (i : Nat) (h : ED X ρ e d) (hN : X.N.Nodup) (hi : X.N[i]? = some x := by rfl) (hx : Loc X.env.scope x := by first | exact Or.inl rfl | exact Or.inr rfl)
    (hs : swapsWith e (some (.Name x p)) pos.line X.env = pure false := by rfl) (hf : X.fn x = true ∨ X.env.scope.names.lookup x = some .local := by first | exact .inl rfl | exact .inr rfl | assumption) : SD X ρ (.Assign [.Name x p] e pos) (.nx (ρ.set i (some d))) := fun S σ H D sl q =>
  s_set i (h S σ H _ sl fun v H1 s1 g1 => q _ H1 s1 ((sl.same s1).set g1)) hN hi hx hs hf
end
end My

namespace My
open PySem PySem.Spec PyProof.Rows L2
/-! ### defs by their promise on data -/
def startD (N : List Str) (ds : List PyData) : Rho := ds.map some ++ List.replicate (N.length - ds.length) none
theorem sl_start {S : Addr → Prop} {H : Hp} {N : List Str} {vs : List V} {ds : List PyData} (h : DGs S H vs ds) (hS : ∀ a, S a → H a ≠ none) : SL S H (L2.start N vs) (startD N ds) := by
  have hl := h.length
  refine ⟨hS, fun i d q => ?_, ?_⟩
  · unfold startD at q
    by_cases lt : i < ds.length
    · rw [List.getElem?_append_left (by rw [List.length_map]; exact lt), List.getElem?_map] at q
      have lv : i < vs.length := by omega
      obtain ⟨d', e1, e2⟩ := h.get (List.getElem?_eq_getElem lv)
      rw [e1] at q
      cases q
      refine ⟨vs[i], ?_, e2⟩
      unfold L2.start
      rw [List.getElem?_append_left (by rw [List.length_map]; exact lv), List.getElem?_map, List.getElem?_eq_getElem lv]
      rfl
    · rw [List.getElem?_append_right (by rw [List.length_map]; omega), List.getElem?_replicate] at q
      split at q <;> cases q
  · unfold L2.start startD
    rw [List.length_append, List.length_append, List.length_map, List.length_map, List.length_replicate, List.length_replicate, hl]
theorem Fun.okD {P : Program} {w : World} {K : PySem.W.Frag} {mg : Str → Option Value} {base : Heap} {x qual : Str} {st : Stmt} {f : Addr} {fd : FuncData} {N ps : List Str} {k : Nat} {Fn : List PyData → Option PyData} (F : Fun K x qual st f fd) (S : FnScope N ps (defScope st))
    (len : ∀ ds d, Fn ds = some d → ds.length = ps.length)
    (body : ∀ (cdv : Value) (B : Around) (out : List Env) (s : Shared) (H : Hp) (E : XK) (ds : List PyData) (d : PyData), Room k (B.deeper (envOfC qual (defScope st) s.heap.objs.size f cdv)) → Fn ds = some d →
      LD (cxOf CX0 P w K mg base N qual (defScope st) f cdv B out s H E).nox (startD N ds) (defBody st) (.ret d)) : FnOk P w K mg base CX0 (k + 1) f fd ps (spD Fn) :=
  Fun.okW F S (fun vs H Q E ⟨S0, ds, d, g, _, e, _⟩ => by rw [g.length]; exact len ds d e) fun cdv B out s H vs Q E hr ⟨S0, ds, d, g, hS, e, q⟩ =>
    body cdv B out s H E ds d hr e S0 _ H _ (sl_start g hS) q
theorem Fun.okDG {P : Program} {w : World} {K : PySem.W.Frag} {mg : Str → Option Value} {base : Heap} {x qual : Str} {st : Stmt} {f : Addr} {fd : FuncData} {N ps : List Str} {k : Nat} {Fn : List PyData → Option PyData} (F : Fun K x qual st f fd) (S : FnScope N ps (defScope st))
    (len : ∀ ds d, Fn ds = some d → ds.length = ps.length)
    (body : ∀ (cdv : Value) (B : Around) (out : List Env) (s : Shared) (H : Hp) (E : XK) (ds : List PyData) (d : PyData), Room k (B.deeper (envOfC qual (defScope st) s.heap.objs.size f cdv)) →
      (B.deeper (envOfC qual (defScope st) s.heap.objs.size f cdv)).guards = some [] → Fn ds = some d →
      LD (cxOf CX0 P w K mg base N qual (defScope st) f cdv B out s H E).nox (startD N ds) (defBody st) (.ret d)) : FnG P w K mg base (k + 1) f fd ps (spD Fn) :=
  Fun.okG F S (fun vs H Q E ⟨S0, ds, d, g, _, e, _⟩ => by rw [g.length]; exact len ds d e) fun cdv B out s H vs Q E hr hG ⟨S0, ds, d, g, hS, e, q⟩ =>
    body cdv B out s H E ds d hr hG e S0 _ H _ (sl_start g hS) q
/-! ### order of texts -/
def srt (zs : List Str) : List Str := zs.mergeSort fun a b => !decide (lt b a)
theorem srt_perm (zs : List Str) : (srt zs).Perm zs := List.mergeSort_perm ..
theorem srt_pw (zs : List Str) : (srt zs).Pairwise fun a b => ¬ lt b a := by
  have h := List.pairwise_mergeSort (le := fun a b : Str => !decide (lt b a)) (fun a b c h1 h2 => by
    have h1' : ¬ lt b a := by simpa using h1
    have h2' : ¬ lt c b := by simpa using h2
    simpa using le_trans h1' h2') (fun a b => by
    by_cases q : lt b a
    · have : ¬ lt a b := fun z => lt_irr a (lt_trans z q)
      simp [this]
    · simp [q]) zs
  exact h.imp fun {a b} h => by simpa using h
theorem srt_uniq {zs ys : List Str} (hp : ys.Perm zs) (hs : sortedS ys = true) : ys = srt zs :=
  List.Perm.eq_of_pairwise (fun a b _ _ h1 h2 => lt_tri h2 h1) (sortedS_pw hs) (srt_pw zs) (hp.trans (srt_perm zs).symm)
def dd : List Str → List Str
  | [] => []
  | x :: xs => if x ∈ xs then dd xs else x :: dd xs
theorem mem_dd (k : Str) : ∀ xs : List Str, k ∈ dd xs ↔ k ∈ xs
  | [] => Iff.rfl
  | x :: xs => by
    have ih := mem_dd k xs
    unfold dd
    split
    · rw [ih, List.mem_cons]
      exact ⟨.inr, fun h => h.elim (fun e => by rw [e]; assumption) id⟩
    · rw [List.mem_cons, List.mem_cons, ih]
theorem nodup_dd : ∀ xs : List Str, (dd xs).Nodup
  | [] => List.nodup_nil
  | x :: xs => by
    unfold dd
    split
    · exact nodup_dd xs
    · exact List.nodup_cons.mpr ⟨fun h => by rw [mem_dd] at h; contradiction, nodup_dd xs⟩
theorem dd_self : ∀ {xs : List Str}, xs.Nodup → dd xs = xs
  | [], _ => rfl
  | x :: xs, h => by
    have h' := List.nodup_cons.mp h
    unfold dd
    rw [if_neg h'.1, dd_self h'.2]
theorem srtSet_uniq {zs ys : List Str} (hs : sortedS ys = true) (hn : ys.Nodup) (hm : ∀ k, k ∈ ys ↔ k ∈ zs) : ys = srt (dd zs) :=
  srt_uniq ((List.perm_ext_iff_of_nodup hn (nodup_dd zs)).mpr fun k => by rw [hm k, mem_dd]) hs
theorem dd_len (zs : List Str) : (dd zs).length = zs.length ↔ zs.Nodup := by
  induction zs with
  | nil => exact ⟨fun _ => List.nodup_nil, fun _ => rfl⟩
  | cons x xs ih =>
    have le : ∀ l : List Str, (dd l).length ≤ l.length := fun l => by
      induction l with
      | nil => exact Nat.le_refl _
      | cons y l ih => unfold dd; split
                       · rw [List.length_cons]; omega
                       · rw [List.length_cons, List.length_cons]; omega
    unfold dd
    split
    · rename_i h
      have := le xs
      rw [List.length_cons, List.nodup_cons]
      exact ⟨fun e => by omega, fun e => absurd h e.1⟩
    · rename_i h
      rw [List.length_cons, List.length_cons, List.nodup_cons, ← ih]
      exact ⟨fun e => ⟨h, by omega⟩, fun e => by omega⟩
theorem srt_asc (zs : List Str) : decide (zs = srt (dd zs)) = ascS zs := by
  apply Bool.eq_iff_iff.mpr
  rw [decide_eq_true_eq, asc_iff]
  constructor
  · intro e
    have pw := srt_pw (dd zs)
    have nd : (srt (dd zs)).Nodup := (srt_perm _).nodup_iff.mpr (nodup_dd zs)
    rw [← e] at pw nd
    refine (pw.and nd).imp fun {a b} ⟨h1, h2⟩ => ?_
    by_cases q : lt a b
    · exact q
    · exact absurd (lt_tri q h1) h2
  · intro h
    have nd : zs.Nodup := h.imp (S := fun a b => a ≠ b) fun {a b} h1 h2 => lt_irr a (by rw [← h2] at h1; exact h1)
    rw [dd_self nd]
    exact List.Perm.eq_of_pairwise (fun a b _ _ h1 h2 => lt_tri h2 h1) (h.imp fun {a b} h1 h2 => lt_irr a (lt_trans h1 h2)) (srt_pw zs) (srt_perm zs).symm
section
variable {X : Cx} {ρ : Rho} {a b c e : Expr} {es rest : List Expr} {d d1 d2 : PyData} {ds ds2 : List PyData} {pos p p2 p3 pc pt : Pos} {x : Str} {k m : Bool}
theorem d_callG {kk j : Nat} {F : List PyData → Option PyData} (cF : CalG X.prog X.w X.K X.mg X.base kk x (spD F)) (hr : Room j X.A) (hG : X.A.guards = some []) (hk : kk ≤ j) (h : AD X ρ (e :: es) ds) (hF : F ds = some d) (hg : Gl X x := by rfl)
    (hdb : (x == ("__debug__" : Str)) = false := by decide) (he : starEach (e :: es) X.env = (false, eval e X.env) :: starEach es X.env := by rfl) (hpl : (backTo pos (starEach es X.env)).any (·.1) = false := by rfl) : ED X ρ (.Call (.Name x p) (e :: es) [] pos) d := fun S σ H Q sl q =>
  e_cG cF hr hG hk (h S σ H _ sl fun vs H1 s1 g1 => by
    exact ⟨S, ds, d, g1, in_same s1 sl.dom, hF, fun v H2 s2 g2 => q v H2 (s1.trans s2) g2⟩) hg hdb he hpl
theorem ED.cast {d' : PyData} (h : ED X ρ e d) (q : d = d') : ED X ρ e d' := q ▸ h
theorem TD.cast {k' : Bool} (h : TD X ρ e k) (q : k = k') : TD X ρ e k' := q ▸ h
/-- sorted of texts; sorted(set(..)) -/
theorem d_sortedL {zs : List Str} (hm : X.mg "sorted" = none) (h : ED X ρ e (.list (zs.map PyData.str))) (l : zs.length < 64) (hg : Gl X "sorted" := by rfl)
    (he : starEach [e] X.env = (false, eval e X.env) :: starEach [] X.env := by rfl) : ED X ρ (.Call (.Name "sorted" p) [e] [] pos) (.list ((srt zs).map PyData.str)) := fun S σ H Q sl q =>
  e_sorted hm (h S σ H _ sl fun v H1 s1 g1 => by
    obtain ⟨a, xs, rfl, _, hs, sq⟩ := g1.seqL (K := X.K)
    rw [strsE hs] at sq
    refine ⟨a, zs, rfl, sq, l, fun ys t hp hso ht => ?_⟩
    rw [srt_uniq hp hso]
    exact q _ _ (s1.trans (same_new ht)) (.lst upd_same (fun z => in_same s1 sl.dom t z ht) (DGs.strs _))) hg he rfl
theorem d_sortedT {zs : List Str} (hm : X.mg "sorted" = none) (h : ED X ρ e (.tuple (zs.map PyData.str))) (l : zs.length < 64) (hg : Gl X "sorted" := by rfl)
    (he : starEach [e] X.env = (false, eval e X.env) :: starEach [] X.env := by rfl) : ED X ρ (.Call (.Name "sorted" p) [e] [] pos) (.list ((srt zs).map PyData.str)) := fun S σ H Q sl q =>
  e_callB cr_sortedTS hm PyProof.Rows.boot_sorted (a_cons (h S σ H _ sl fun v H1 s1 g1 => by
    obtain ⟨a, xs, rfl, _, hs, sq⟩ := g1.seq (K := X.K)
    rw [strsE hs] at sq
    refine a_nil ⟨a, zs, rfl, sq, l, fun ys t hp hso ht => ?_⟩
    rw [srt_uniq hp hso]
    exact q _ _ (s1.trans (same_new ht)) (.lst upd_same (fun z => in_same s1 sl.dom t z ht) (DGs.strs _))) he) hg (by decide) (by decide) he rfl
theorem d_sortedSet {zs : List Str} (hm : X.mg "sorted" = none) (hm2 : X.mg "set" = none) (h : ED X ρ a (.list (zs.map PyData.str)) ∨ ED X ρ a (.tuple (zs.map PyData.str))) (l : zs.length < 64) (hc : X.calm = true := by rfl) (hg : Gl X "sorted" := by rfl) (hg2 : Gl X "set" := by rfl)
    (na : starEach [a] X.env = (false, eval a X.env) :: starEach [] X.env := by rfl) : ED X ρ (.Call (.Name "sorted" p) [.Call (.Name "set" p2) [a] [] p3] [] pos) (.list ((srt (dd zs)).map PyData.str)) := fun S σ H Q sl q => by
  refine e_sortedSet hm hm2 ?_ hc hg hg2 na
  have fin : ∀ {H1 : Hp}, Same H H1 → ∀ (ys : List Str) (t : Addr), sortedS ys = true → ys.Nodup → (∀ k, k ∈ ys ↔ k ∈ zs) → ys.length = cnt zs zs.length → H1 t = none → Q (.ref t) (upd H1 t (.lst (ys.map V.str))) := fun {H1} s1 ys t hso hnd hmem _ ht => by
    rw [srtSet_uniq hso hnd hmem]
    exact q _ _ (s1.trans (same_new ht)) (.lst upd_same (fun z => in_same s1 sl.dom t z ht) (DGs.strs _))
  rcases h with h | h
  · exact h S σ H _ sl fun v H1 s1 g1 => by
      obtain ⟨a, xs, rfl, _, hs, sq⟩ := g1.seqL (K := X.K)
      rw [strsE hs] at sq
      exact ⟨a, zs, rfl, .inl sq, l, fin s1⟩
  · exact h S σ H _ sl fun v H1 s1 g1 => by
      obtain ⟨a, xs, rfl, _, hs, sq⟩ := g1.seq (K := X.K)
      rw [strsE hs] at sq
      exact ⟨a, zs, rfl, .inr sq, l, fin s1⟩
/-! ### over a text, over range -/
section
variable {elt iter : Expr} {scope : Scope}
theorem lc_step {S : Addr → Prop} {σ : L2.St} {H1 H' : Hp} {D : Addr} {ys : List V} (nD : H1 D = none) (sl1 : SL S H1 σ ρ) (k1 : ∀ b o, b ≠ D → (L2.upd H1 D (.lst [])) b = some o → H' b = some o) (k2 : H' D = some (.lst ys)) : SL (And1 S D) H' σ ρ := by
  have slD := sl1.and1 (o := .lst []) nD
  have keep : ∀ {v : V} {d : PyData}, DG (And1 S D) (L2.upd H1 D (.lst [])) v d → DG (And1 S D) H' v d := fun g => g.mono (fun b xs e => k1 b _ (ne_of e upd_same (fun z => by cases z)) e) fun a o n e => ⟨n, k1 a o (fun z => n (.inr z)) e⟩
  exact ⟨fun b z w => by
      cases e : (L2.upd H1 D (.lst [])) b with
      | none => exact slD.dom b z e
      | some o =>
        by_cases bD : b = D
        · rw [bD, k2] at w; cases w
        · (rw [k1 b o bD e] at w; cases w), fun i d q => let ⟨v, a, b⟩ := slD.look i d q; ⟨v, a, keep b⟩, slD.len⟩
theorem d_lcS {z : Str} (j : Nat) (f : Nat → PyData) (hN : X.N.Nodup) (okb : BlkOk X.N X.env.scope scope [(x, j)]) (h : ED X ρ iter (.str z)) (l : z.length ≤ 200000) (hel : ∀ c ∈ z.cps.toList, BD X scope (ρ.set j (some (.str ⟨#[c]⟩))) elt (f c))
    (hg : ∀ (s : Shared) (H : Hp) (C : Addr) (cl : List (Str × Addr)) (fp : List Addr), PG (X.blk s H scope (compEnvC scope cl C X.env) fp) (.Name x pt) (gName j))
    (hc : X.calm = true := by rfl) (hs : ∀ z, foldedSetIterable iter X.env z = pure z := by intro _; rfl) : ED X ρ (.ListComp elt [⟨.Name x pt, iter, [], 0⟩] scope pos) (.list (z.cps.toList.map f)) := fun S σ H Q sl q => by
  refine e_lcS j hN okb (h S σ H _ sl fun v H1 s1 g1 => ?_) hg hc hs
  cases g1
  refine ⟨z, rfl, fun D nD => ?_⟩
  have sl1 := sl.same s1
  refine ⟨fun i H' => ∃ ys, (∀ b o, b ≠ D → (L2.upd H1 D (.lst [])) b = some o → H' b = some o) ∧ H' D = some (.lst ys) ∧ ys.length = i ∧ DGs (And1 S D) H' ys ((z.cps.toList.take i).map f), ?_, ?_, ?_⟩
  · exact ⟨[], fun b o _ e => e, upd_same, rfl, .nil⟩
  · rintro i ch H' hi ⟨ys, k1, k2, k3, k4⟩ s0 H00 C cl fp
    have hi' : z.cps.toList[i]? = some ch := by rw [Array.getElem?_toList]; exact hi
    have lt : i < z.cps.toList.length := (List.getElem?_eq_some_iff.mp hi').1
    have sl2 := SL.set (i := j) (lc_step nD sl1 k1 k2) (DG.str (S := And1 S D) (H := H') ⟨#[ch]⟩)
    have ew : (L2.wipe σ [j]).set j (some (V.str ⟨#[ch]⟩)) = σ.set j (some (V.str ⟨#[ch]⟩)) := by show (σ.set j none).set j _ = _; rw [List.set_set]
    rw [ew]
    refine hel ch (List.mem_of_getElem? hi') s0 H00 C cl fp (And1 S D) _ H' _ sl2 fun y H4 s4 g4 => ?_
    have h4 := s4 _ _ k2
    have i1 : i < 200001 := by
      have e : z.cps.toList.length = z.length := by rw [Array.length_toList]; rfl
      omega
    refine ⟨ys, h4, by rw [k3]; exact Nat.lt_of_lt_of_le i1 (by decide), ys ++ [y], fun b o n e => ?_, upd_same, by rw [List.length_append, k3]; rfl, ?_⟩
    · rw [upd_ne n]; exact s4 _ _ (k1 b o n e)
    · have e : z.cps.toList[i] = ch := by rw [List.getElem?_eq_getElem lt] at hi'; exact Option.some.inj hi'
      rw [List.take_succ_eq_append_getElem lt, List.map_append, e]
      exact ((k4.same s4).append (.cons g4 .nil)).put h4
  · rintro H' ⟨ys, k1, k2, k3, k4⟩
    have e : z.cps.size = z.cps.toList.length := by rw [Array.length_toList]
    rw [e, List.take_length] at k4
    refine q _ H' (s1.trans fun b o e => k1 b o (ne_of_none e nD) (same_new nD b o e)) (.lst k2 (fun z => sl1.dom D z nD) k4.un1)
theorem d_lcR {n : Nat} (j : Nat) (f : Nat → PyData) (hm : X.mg "range" = none) (hN : X.N.Nodup) (okb : BlkOk X.N X.env.scope scope [(x, j)]) (h : ED X ρ a (.int n)) (l : n ≤ 200000) (hel : ∀ i, i < n → BD X scope (ρ.set j (some (.int i))) elt (f i))
    (hg : ∀ (s : Shared) (H : Hp) (C : Addr) (cl : List (Str × Addr)) (fp : List Addr), PG (X.blk s H scope (compEnvC scope cl C X.env) fp) (.Name x pt) (gName j))
    (hgl : Gl X "range" := by rfl) (hst : starEach [a] X.env = [(false, eval a X.env)] := by rfl)
    (hc : X.calm = true := by rfl) (hs : ∀ z, foldedSetIterable (.Call (.Name "range" p) [a] [] pc) X.env z = pure z := by intro _; rfl) : ED X ρ (.ListComp elt [⟨.Name x pt, .Call (.Name "range" p) [a] [] pc, [], 0⟩] scope pos) (.list ((List.range n).map f)) := fun S σ H Q sl q => by
  refine e_lcR j hm hN okb (h S σ H _ sl fun v H1 s1 g1 => ?_) hg hgl hst hc hs
  cases g1
  refine ⟨n, rfl, by omega, fun D nD => ?_⟩
  have sl1 := sl.same s1
  refine ⟨fun i H' => ∃ ys, (∀ b o, b ≠ D → (L2.upd H1 D (.lst [])) b = some o → H' b = some o) ∧ H' D = some (.lst ys) ∧ ys.length = i ∧ DGs (And1 S D) H' ys ((List.range i).map f), ?_, ?_, ?_⟩
  · exact ⟨[], fun b o _ e => e, upd_same, rfl, .nil⟩
  · rintro i H' hi ⟨ys, k1, k2, k3, k4⟩ s0 H00 C cl fp
    have sl2 := SL.set (i := j) (lc_step nD sl1 k1 k2) (DG.int (S := And1 S D) (H := H') (i : Int))
    have ew : (L2.wipe σ [j]).set j (some (V.int i)) = σ.set j (some (V.int i)) := by show (σ.set j none).set j _ = _; rw [List.set_set]
    rw [ew]
    refine hel i hi s0 H00 C cl fp (And1 S D) _ H' _ sl2 fun y H4 s4 g4 => ?_
    have h4 := s4 _ _ k2
    refine ⟨ys, h4, by rw [k3]; exact Nat.lt_of_lt_of_le (show i < 200001 by omega) (by decide), ys ++ [y], fun b o n e => ?_, upd_same, by rw [List.length_append, k3]; rfl, ?_⟩
    · rw [upd_ne n]; exact s4 _ _ (k1 b o n e)
    · rw [List.range_succ, List.map_append]
      exact ((k4.same s4).append (.cons g4 .nil)).put h4
  · rintro H' ⟨ys, k1, k2, k3, k4⟩
    exact q _ H' (s1.trans fun b o e => k1 b o (ne_of_none e nD) (same_new nD b o e)) (.lst k2 (fun z => sl1.dom D z nD) k4.un1)
end
/-! ### unpacking, for -/
variable {st : Stmt} {l l1 l2 : List Stmt} {o : Out} {ρ1 : Rho} {x1 x2 x3 x4 : Str} {q1 q2 q3 q4 : Pos} {kt : _}
theorem sd_unp2 {da db : PyData} (i1 i2 : Nat) (h : ED X ρ e (.tuple [da, db])) (hg : PG X (.Tuple [.Name x1 q1, .Name x2 q2] kt pt) (gTup X.K 2 (gCons (gName i1) (gCons (gName i2) gNil))))
    (hs : swapsWithSole [.Tuple [.Name x1 q1, .Name x2 q2] kt pt] e pos.line X.env = pure false := by rfl) (hw : swappedStores [.Tuple [.Name x1 q1, .Name x2 q2] kt pt] e X.env = pure none := by rfl)
    (h1 : (assignEach [.Tuple [.Name x1 q1, .Name x2 q2] kt pt] X.env).map (·.2) = [assign (.Tuple [.Name x1 q1, .Name x2 q2] kt pt) X.env] := by rfl) : SD X ρ (.Assign [.Tuple [.Name x1 q1, .Name x2 q2] kt pt] e pos) (.nx ((ρ.set i1 (some da)).set i2 (some db))) := fun S σ H D sl q =>
  s_asg hg (h S σ H _ sl fun v H1 s1 g1 => by
    obtain ⟨a, xs, rfl, _, hs, sq⟩ := g1.seq (K := X.K)
    cases hs with | cons ga hs => cases hs with | cons gb hs => cases hs with | nil =>
      exact ⟨a, _, rfl, sq, rfl, _, _, rfl, _, _, rfl, rfl, q _ H1 s1 (((sl.same s1).set ga).set gb)⟩) hs hw h1
theorem sd_unp3 {da db dc : PyData} (i1 i2 i3 : Nat) (h : ED X ρ e (.tuple [da, db, dc])) (hg : PG X (.Tuple [.Name x1 q1, .Name x2 q2, .Name x3 q3] kt pt) (gTup X.K 3 (gCons (gName i1) (gCons (gName i2) (gCons (gName i3) gNil)))))
    (hs : swapsWithSole [.Tuple [.Name x1 q1, .Name x2 q2, .Name x3 q3] kt pt] e pos.line X.env = pure false := by rfl) (hw : swappedStores [.Tuple [.Name x1 q1, .Name x2 q2, .Name x3 q3] kt pt] e X.env = pure none := by rfl)
    (h1 : (assignEach [.Tuple [.Name x1 q1, .Name x2 q2, .Name x3 q3] kt pt] X.env).map (·.2) = [assign (.Tuple [.Name x1 q1, .Name x2 q2, .Name x3 q3] kt pt) X.env] := by rfl) : SD X ρ (.Assign [.Tuple [.Name x1 q1, .Name x2 q2, .Name x3 q3] kt pt] e pos) (.nx (((ρ.set i1 (some da)).set i2 (some db)).set i3 (some dc))) := fun S σ H D sl q =>
  s_asg hg (h S σ H _ sl fun v H1 s1 g1 => by
    obtain ⟨a, xs, rfl, _, hs, sq⟩ := g1.seq (K := X.K)
    cases hs with | cons ga hs => cases hs with | cons gb hs => cases hs with | cons gc hs => cases hs with | nil =>
      exact ⟨a, _, rfl, sq, rfl, _, _, rfl, _, _, rfl, _, _, rfl, rfl, q _ H1 s1 ((((sl.same s1).set ga).set gb).set gc)⟩) hs hw h1
theorem sd_unp4 {da db dc de : PyData} (i1 i2 i3 i4 : Nat) (h : ED X ρ e (.tuple [da, db, dc, de])) (hg : PG X (.Tuple [.Name x1 q1, .Name x2 q2, .Name x3 q3, .Name x4 q4] kt pt) (gTup X.K 4 (gCons (gName i1) (gCons (gName i2) (gCons (gName i3) (gCons (gName i4) gNil))))))
    (hs : swapsWithSole [.Tuple [.Name x1 q1, .Name x2 q2, .Name x3 q3, .Name x4 q4] kt pt] e pos.line X.env = pure false := by rfl) (hw : swappedStores [.Tuple [.Name x1 q1, .Name x2 q2, .Name x3 q3, .Name x4 q4] kt pt] e X.env = pure none := by rfl)
    (h1 : (assignEach [.Tuple [.Name x1 q1, .Name x2 q2, .Name x3 q3, .Name x4 q4] kt pt] X.env).map (·.2) = [assign (.Tuple [.Name x1 q1, .Name x2 q2, .Name x3 q3, .Name x4 q4] kt pt) X.env] := by rfl) : SD X ρ (.Assign [.Tuple [.Name x1 q1, .Name x2 q2, .Name x3 q3, .Name x4 q4] kt pt] e pos) (.nx ((((ρ.set i1 (some da)).set i2 (some db)).set i3 (some dc)).set i4 (some de))) := fun S σ H D sl q =>
  s_asg hg (h S σ H _ sl fun v H1 s1 g1 => by
    obtain ⟨a, xs, rfl, _, hs, sq⟩ := g1.seq (K := X.K)
    cases hs with | cons ga hs => cases hs with | cons gb hs => cases hs with | cons gc hs => cases hs with | cons gd hs => cases hs with | nil =>
      exact ⟨a, _, rfl, sq, rfl, _, _, rfl, _, _, rfl, _, _, rfl, _, _, rfl, rfl, q _ H1 s1 (((((sl.same s1).set ga).set gb).set gc).set gd)⟩) hs hw h1
/-- for x in a tuple; each turn goes on (to the next turn's slots), or returns -/
inductive ForD (X : Cx) (j : Nat) (body : List Stmt) : List PyData → Rho → Out → Prop
  | done {ρ : Rho} : ForD X j body [] ρ (.nx ρ)
  | next {ρ ρ1 : Rho} {d : PyData} {ds : List PyData} {o : Out} (h : LD X (ρ.set j (some d)) body (.nx ρ1)) (r : ForD X j body ds ρ1 o) : ForD X j body (d :: ds) ρ o
  | ret {ρ : Rho} {d r : PyData} {ds : List PyData} (h : LD X (ρ.set j (some d)) body (.ret r)) : ForD X j body (d :: ds) ρ (.ret r)
theorem sd_forT {iter : Expr} {body : List Stmt} (j : Nat) (h : ED X ρ iter (.tuple ds)) (hf : ForD X j body ds ρ o) (hg : PG X (.Name x pt) (gName j)) (hp : PassesOwn (model X.prog X.w) X.A X.env X.xe) (hc : X.calm = true := by rfl)
    (hs : ∀ x, foldedSetIterable iter X.env x = pure x := by intro _; rfl) : SD X ρ (.For (.Name x pt) iter body [] pos) o := fun S σ H D sl q => by
  refine s_for (pi_tup pE) hg (h S σ H _ sl fun v H1 s1 g1 => ?_) hp hc hs
  obtain ⟨a, xs, rfl, ha, hds, sq⟩ := g1.seq (K := X.K)
  refine ⟨a, rfl, ⟨xs, sq⟩, for_tup (xs := xs) (fun i σ' H' => ∃ ρ', Same H1 H' ∧ SL S H' σ' ρ' ∧ ForD X j body (ds.drop i) ρ' o) ⟨ρ, Same.refl _, sl.same s1, hf⟩ (fun i σ' H' _ ⟨_, s2, _⟩ => .inl (.inl (s2 _ _ ha))) ?_ ?_⟩
  · rintro i y σ' H' hi ⟨ρ', s2, sl2, fd⟩
    obtain ⟨d, hd, hy⟩ := hds.get hi
    have lt : i < ds.length := (List.getElem?_eq_some_iff.mp hd).1
    have e : ds.drop i = d :: ds.drop (i + 1) := by
      rw [List.drop_eq_getElem_cons lt]
      rw [List.getElem?_eq_getElem lt] at hd
      rw [Option.some.inj hd]
    rw [e] at fd
    have sl3 := sl2.set (i := j) (hy.same s2)
    cases fd with
    | next hb r => exact hb S _ H' _ sl3 fun σ4 H4 s4 sl4 => ⟨_, s2.trans s4, sl4, r⟩
    | ret hb => exact hb S _ H' _ sl3 fun v H4 s4 g4 => q v H4 (s1.trans (s2.trans s4)) g4
  · rintro σ' H' ⟨ρ', s2, sl2, fd⟩
    rw [hds.length, List.drop_length] at fd
    cases fd
    exact q σ' H' (s1.trans s2) sl2
end
end My

namespace My
open PySem PySem.Spec PyProof.Rows L2
/-! ### forms, as functions on data -/
def els : PyData → List PyData | .tuple ds => ds | _ => []
def at' (d : PyData) (i : Nat) : PyData := (els d).getD i .none
def tupN (d : PyData) (n : Nat) : Bool := isTup d && decide ((els d).length = n)
def nnD (d : PyData) : Bool := isNone d || namD d
def pairD (d : PyData) : Bool := tupN d 2
def colD (d : PyData) : Bool := pairD d && (nnD (at' d 0) && namD (at' d 1))
def callD : Nat → PyData → Bool
  | 0, _ => false
  | k + 1, d => tupN d 4 && (eqS (at' d 0) "call" && nnD (at' d 1) && namD (at' d 2)) && tupD 1 2 (fun x => colD x || valD x || callD k x) (at' d 3)
def toldD (d : PyData) : Bool := if pairD d then eqS (at' d 0) "star" && namD (at' d 1) else tupN d 3 && namD (at' d 2) && (if eqS (at' d 0) "column" then colD (at' d 1) else eqS (at' d 0) "term" && (valD (at' d 1) || callD 3 (at' d 1)))
def srcD (d : PyData) : Bool := tupN d 3 && (nnD (at' d 0) && namD (at' d 1) && namD (at' d 2))
def condD (d : PyData) : Bool := tupN d 3 && colD (at' d 1) && (if eqS (at' d 0) "equal" then colD (at' d 2) else eqS (at' d 0) "in" && valsD (at' d 2))
def labs (d : PyData) (i : Nat) : List Str := (els d).map fun x => My.strOf (at' x i)
def stD (d : PyData) : Bool := tupN d 4 && (isBoo (at' d 0) && tupD 1 8 toldD (at' d 1) && tupD 1 4 srcD (at' d 2) && decide (labs (at' d 2) 2).Nodup && tupD 0 8 condD (at' d 3))
def hasV : Nat → PyData → Bool
  | 0, d => isStr d
  | k + 1, d => isStr d || (!pairD d && (els (at' d 3)).any (hasV k))
def truB : PyData → Bool | .bool b => b | _ => false
def viewD (d : PyData) : Bool := stD d && !truB (at' d 0) && (els (at' d 1)).all (fun it => !(eqS (at' it 0) "star" || hasV 3 (at' it 1))) && decide (labs (at' d 1) 2).Nodup
def pathD (d : PyData) : Bool := tupD 0 6 namD d && decide ((els d).map My.strOf).Nodup
theorem els_tup {d : PyData} (h : isTup d = true) : d = .tuple (els d) := by cases d <;> first | rfl | cases h
theorem tupN_tup {d : PyData} {n : Nat} (h : tupN d n = true) : isTup d = true ∧ (els d).length = n := by
  unfold tupN at h
  rw [Bool.and_eq_true, decide_eq_true_eq] at h
  exact h
theorem at_get {d : PyData} {i : Nat} (h : i < (els d).length) : (els d)[i]? = some (at' d i) := by
  unfold at'
  rw [List.getD_eq_getElem?_getD, List.getElem?_eq_getElem h]; rfl
theorem okS_at {d : PyData} (h : okS d = true) (i : Nat) : okS (at' d i) = true := by
  unfold at'
  by_cases lt : i < (els d).length
  · rw [List.getD_eq_getElem?_getD, List.getElem?_eq_getElem lt]
    have hm : (els d)[i] ∈ els d := List.getElem_mem lt
    cases d with
    | tuple ds => exact okS_t h _ hm
    | _ => cases hm
  · rw [List.getD_eq_getElem?_getD, List.getElem?_eq_none (by omega)]
    decide +kernel
theorem okS_els {d : PyData} (h : okS d = true) : ∀ x ∈ els d, okS x = true := fun x hx => by
  cases d with
  | tuple ds => exact okS_t h x hx
  | _ => cases hx
theorem tupD_els {lo hi : Int} {f : PyData → Bool} {d : PyData} (h : tupD lo hi f d = true) : isTup d = true ∧ lo ≤ (els d).length ∧ ((els d).length : Int) ≤ hi ∧ ∀ x ∈ els d, f x = true := by
  cases d with
  | tuple ds =>
    have h' : (decide (lo ≤ (ds.length : Int)) && decide ((ds.length : Int) ≤ hi) && ds.all f) = true := h
    rw [Bool.and_eq_true, Bool.and_eq_true, decide_eq_true_eq, decide_eq_true_eq, List.all_eq_true] at h'
    exact ⟨rfl, h'.1.1, h'.1.2, h'.2⟩
  | _ => cases h
theorem nam_str {d : PyData} (h : namD d = true) : d = .str (My.strOf d) := by cases d <;> first | rfl | cases h
theorem dec_cast (a b : Nat) : decide ((a : Int) = (b : Int)) = decide (a = b) := by
  apply Bool.eq_iff_iff.mpr
  rw [decide_eq_true_eq, decide_eq_true_eq]
  exact Int.ofNat_inj
section
variable {X : Cx} {ρ : Rho} {a b c e : Expr} {es rest : List Expr} {d d1 d2 : PyData} {ds ds2 : List PyData} {pos p p2 p3 pc pt : Pos} {x y : Str} {k m : Bool}
/-- thing[i] -/
theorem d_at {i : Nat} {j} {n : Nat} (ha : ED X ρ a d) (h : isTup d = true) (hi : i < (els d).length) : ED X ρ (.Subscript a (.Constant (.int i) j p) pos) (at' d i) := by
  refine d_ix (ds := els d) (i := i) (ha.cast (els_tup h)) (d_int i) (at_get hi)
/-- .. as a part of a longer one -/
theorem wd_tupN {a2 : Expr} {n : Nat} {j} (G : X.mg "isinstance" = none ∧ X.mg "tuple" = none ∧ X.mg "len" = none) (h : ED X ρ a d) (hB : ED X ρ a2 d) (hr : tupN d n = true → WD X ρ (.BoolOp .Or (b :: rest) pos) m) (hg : Gl X "isinstance" := by rfl) (hgT : Gl X "tuple" := by rfl) (hgl : Gl X "len" := by rfl) {q1 q2 q3 q4 q5 q6 q7 : Pos}
    (he : starEach [a, .Name "tuple" q2] X.env = (false, eval a X.env) :: starEach [.Name "tuple" q2] X.env := by rfl) (he2 : starEach [a2] X.env = (false, eval a2 X.env) :: starEach [] X.env := by rfl)
    (hi1 : ∀ whole, isTrue (.Call (.Name "isinstance" q1) [a, .Name "tuple" q2] [] q3) X.env whole = (do let v ← whole; standAt q3; holding [v] (truthy v)) := by intro _; rfl) :
    WD X ρ (.BoolOp .Or (.UnaryOp .Not (.Call (.Name "isinstance" q1) [a, .Name "tuple" q2] [] q3) q4 :: .Compare (.Call (.Name "len" q5) [a2] [] q6) [.NotEq] [.Constant (.int n) j p] q7 :: b :: rest) pos) (!tupN d n || m) := by
  have e : (!tupN d n || m) = (!isTup d || (!decide ((els d).length = n) || m)) := by unfold tupN; cases isTup d <;> cases decide ((els d).length = n) <;> rfl
  rw [e]
  refine wd_or (td_not (td_val (d_isTup G.1 G.2.1 h hg hgT he) hi1)) fun ht => ?_
  have ht' : isTup d = true := by simpa using ht
  refine wd_or (td_cmp o_neI (d_len (ds := els d) G.2.2 (hB.cast (els_tup ht')) hgl he2) (d_int _) ⟨_, _, rfl, rfl, congrArg Bool.not (dec_cast _ _).symm⟩ (by exact nomark _)) fun hl => hr ?_
  have hl' : (els d).length = n := by simpa using hl
  unfold tupN
  rw [ht', hl', decide_eq_true rfl]; rfl
/-! promises of one argument -/
def F1 (f : PyData → Bool) : List PyData → Option PyData
  | [d] => if okS d then some (.bool (f d)) else none
  | _ => none
theorem spD_B {f : PyData → Bool} {vs : List V} {H : Hp} {Q : VK} {E : XK} (h : spD (F1 f) vs H Q E) : spB f vs H Q E := by
  obtain ⟨S, ds, d, g, hS, e, q⟩ := h
  cases g with
  | nil => cases e
  | cons g1 gs =>
    cases gs with
    | cons _ _ => cases e
    | nil =>
      rename_i v d0
      by_cases hk : okS d0 = true
      · have e' : (if okS d0 then some (PyData.bool (f d0)) else none) = some d := e
        rw [if_pos hk] at e'
        cases e'
        exact ⟨S, v, d0, rfl, g1, hk, fun H' s => q _ H' s (.bl _)⟩
      · have e' : (if okS d0 then some (PyData.bool (f d0)) else none) = some d := e
        rw [if_neg hk] at e'
        cases e'
theorem F1_of {f : PyData → Bool} {d : PyData} (h : okS d = true) : F1 f [d] = some (.bool (f d)) := if_pos h
theorem F1_len {f : PyData → Bool} (ds : List PyData) (d : PyData) (h : F1 f ds = some d) : ds.length = 1 := by
  match ds, h with
  | [_], _ => rfl
  | [], h => cases h
  | _ :: _ :: _, h => cases h
theorem F1_inv {f : PyData → Bool} {ds : List PyData} {r : PyData} (h : F1 f ds = some r) : ∃ d, ds = [d] ∧ okS d = true ∧ r = .bool (f d) := by
  match ds, h with
  | [d], h =>
    by_cases hk : okS d = true
    · have e' : (if okS d then some (PyData.bool (f d)) else none) = some r := h
      rw [if_pos hk] at e'
      exact ⟨d, rfl, hk, by cases e'; rfl⟩
    · have e' : (if okS d then some (PyData.bool (f d)) else none) = some r := h
      rw [if_neg hk] at e'
      cases e'
  | [], h => cases h
  | _ :: _ :: _, h => cases h
theorem FnOk.to {P : Program} {w : World} {K : PySem.W.Frag} {mg : Str → Option Value} {base : Heap} {k : Nat} {f : Addr} {fd : FuncData} {ps : List Str} {sp sp' : Sp} (h : FnOk P w K mg base CX0 k f fd ps sp) (i : ∀ vs H Q E, sp' vs H Q E → sp vs H Q E) : FnOk P w K mg base CX0 k f fd ps sp' :=
  ⟨fun vs H Q E q => h.len vs H Q E (i vs H Q E q), fun B out s H ar us vs Q E r e b v q => h.run B out s H ar us vs Q E r e b v (i vs H Q E q)⟩
theorem spB_D {f : PyData → Bool} {vs : List V} {H : Hp} {Q : VK} {E : XK} (hd : ∀ (S : Addr → Prop) (v : V) (d : PyData), DG S H v d → DG (fun _ => False) H v d) (h : spB f vs H Q E) : spD (F1 f) vs H (fun v H' => Q v H') E := by
  obtain ⟨S, v, d, rfl, g, hk, q⟩ := h
  refine ⟨fun _ => False, [d], .bool (f d), .cons (hd S v d g) .nil, fun _ z => z.elim, F1_of hk, fun u H' s gu => ?_⟩
  cases gu
  exact q H' s
theorem spB_D' {f : PyData → Bool} {vs : List V} {H : Hp} {Q : VK} {E : XK} (h : spB f vs H Q E) : spD (F1 f) vs H Q E :=
  spB_D (fun S v d g => g.mono (Tup.refl _) fun a o _ e => ⟨fun z => z, e⟩) h
theorem d_fn {kk j : Nat} {f : PyData → Bool} (cF : CalN X.prog X.w X.K X.mg X.base kk x (spB f)) (hr : Room j X.A) (hk : kk ≤ j) (h : ED X ρ e d) (ok : okS d = true) (hg : Gl X x := by rfl)
    (hdb : (x == ("__debug__" : Str)) = false := by decide) (he : starEach [e] X.env = (false, eval e X.env) :: starEach [] X.env := by rfl) : ED X ρ (.Call (.Name x p) [e] [] pos) (.bool (f d)) := fun S σ H Q sl q =>
  e_c cF hr hk (a_cons (h S σ H _ sl fun v H1 s1 g1 => a_nil ⟨S, v, d, rfl, g1, ok, fun H2 s2 => q _ H2 (s1.trans s2) (.bl _)⟩) he) hg hdb he rfl
theorem d_tupOf {kt k j : Nat} {f : PyData → Bool} {lo hi : Int} {el eh : Expr} (cT : CalN X.prog X.w X.K X.mg X.base kt "is_tuple_of" (spTO X.prog X.w X.K X.mg X.base k)) (cF : CalN X.prog X.w X.K X.mg X.base k y (spB f)) (hr : Room j X.A) (hk : kt ≤ j)
    (h : ED X ρ e d) (h1 : ED X ρ el (.int lo)) (h2 : ED X ρ eh (.int hi)) (ok : okS d = true) (hh : hi ≤ 1000) (hg : Gl X "is_tuple_of" := by rfl) (hgy : Gl X y := by rfl) (hdy : (y == ("__debug__" : Str)) = false := by decide)
    (s1 : starEach [e, el, eh, .Name y p2] X.env = (false, eval e X.env) :: starEach [el, eh, .Name y p2] X.env := by rfl) (s2 : starEach [el, eh, .Name y p2] X.env = (false, eval el X.env) :: starEach [eh, .Name y p2] X.env := by rfl)
    (s3 : starEach [eh, .Name y p2] X.env = (false, eval eh X.env) :: starEach [.Name y p2] X.env := by rfl) (hpl : (backTo pos (starEach [el, eh, .Name y p2] X.env)).any (·.1) = false := by rfl) :
    ED X ρ (.Call (.Name "is_tuple_of" p) [e, el, eh, .Name y p2] [] pos) (.bool (tupD lo hi f d)) := fun S σ H Q sl q => by
  obtain ⟨g, gd, gps, Fg, mgG, kg, bg⟩ := cF.ex
  refine e_c cT hr hk (a_cons (h S σ H _ sl fun v H1 t1 g1 => a_cons (h1 S σ H1 _ (sl.same t1) fun u1 H2 t2 g2 => a_cons (h2 S σ H2 _ (sl.same (t1.trans t2)) fun u2 H3 t3 g3 => a_cons (e_glob (v := .ref g) mgG rfl (a_nil ?_) hgy hdy) rfl) s3) s2) s1) hg (by decide) s1 hpl
  cases g2; cases g3
  exact ⟨S, v, d, lo, hi, g, f, rfl, ⟨gd, gps, Fg, kg, bg⟩, hh, (g1.same t2).same t3, ok, fun H4 t4 => q _ H4 (t1.trans (t2.trans (t3.trans t4))) (.bl _)⟩
theorem d_diff {kk j : Nat} {zs : List Str} (cF : CalN X.prog X.w X.K X.mg X.base kk x (spDiff X.K)) (hr : Room j X.A) (hk : kk ≤ j) (h : ED X ρ e (.list (zs.map PyData.str)) ∨ ED X ρ e (.tuple (zs.map PyData.str))) (hl : zs.length ≤ 1000) (hg : Gl X x := by rfl)
    (hdb : (x == ("__debug__" : Str)) = false := by decide) (he : starEach [e] X.env = (false, eval e X.env) :: starEach [] X.env := by rfl) : ED X ρ (.Call (.Name x p) [e] [] pos) (.bool (decide zs.Nodup)) := fun S σ H Q sl q => by
  refine e_c cF hr hk (a_cons ?_ he) hg hdb he rfl
  rcases h with h | h
  · exact h S σ H _ sl fun v H1 s1 g1 => by
      obtain ⟨a, xs, rfl, _, hs, sq⟩ := g1.seqL (K := X.K)
      rw [strsE hs] at sq
      exact a_nil ⟨a, zs, rfl, .inl sq, hl, q _ H1 s1 (.bl _)⟩
  · exact h S σ H _ sl fun v H1 s1 g1 => by
      obtain ⟨a, xs, rfl, _, hs, sq⟩ := g1.seq (K := X.K)
      rw [strsE hs] at sq
      exact a_nil ⟨a, zs, rfl, .inr sq, hl, q _ H1 s1 (.bl _)⟩
end
/-- a def of one argument, by its promise -/
theorem Fun.ok1 {P : Program} {w : World} {K : PySem.W.Frag} {mg : Str → Option Value} {base : Heap} {x qual : Str} {st : Stmt} {f : Addr} {fd : FuncData} {N : List Str} {y : Str} {k : Nat} {φ : PyData → Bool} (F : Fun K x qual st f fd) (S : FnScope N [y] (defScope st))
    (body : ∀ (cdv : Value) (B : Around) (out : List Env) (s : Shared) (H : Hp) (E : XK) (d : PyData), Room k (B.deeper (envOfC qual (defScope st) s.heap.objs.size f cdv)) → okS d = true →
      LD (cxOf CX0 P w K mg base N qual (defScope st) f cdv B out s H E).nox (startD N [d]) (defBody st) (.ret (.bool (φ d)))) : FnOk P w K mg base CX0 (k + 1) f fd [y] (spB φ) :=
  FnOk.to (Fun.okD (Fn := F1 φ) F S F1_len fun cdv B out s H E ds r hr h => by
    obtain ⟨d, rfl, hk, rfl⟩ := F1_inv h
    exact body cdv B out s H E d hr hk) fun vs H Q E h => spB_D' h
/-! more rules -/
section
variable {X : Cx} {ρ : Rho} {a b c e : Expr} {es rest : List Expr} {d d1 d2 : PyData} {ds ds2 : List PyData} {pos p p2 p3 pc pt : Pos} {x y : Str} {k m : Bool} {st : Stmt} {l l1 l2 : List Stmt}
theorem LD.cast {d' : PyData} (h : LD X ρ l (.ret d)) (q : d = d') : LD X ρ l (.ret d') := q ▸ h
theorem WD.cast {k' : Bool} (h : WD X ρ e k) (q : k = k') : WD X ρ e k' := q ▸ h
theorem wd_tupN1 {a2 : Expr} {n : Nat} {j} (G : X.mg "isinstance" = none ∧ X.mg "tuple" = none ∧ X.mg "len" = none) (h : ED X ρ a d) (hB : ED X ρ a2 d) (hg : Gl X "isinstance" := by rfl) (hgT : Gl X "tuple" := by rfl) (hgl : Gl X "len" := by rfl) {q1 q2 q3 q4 q5 q6 q7 : Pos}
    (he : starEach [a, .Name "tuple" q2] X.env = (false, eval a X.env) :: starEach [.Name "tuple" q2] X.env := by rfl) (he2 : starEach [a2] X.env = (false, eval a2 X.env) :: starEach [] X.env := by rfl)
    (hi1 : ∀ whole, isTrue (.Call (.Name "isinstance" q1) [a, .Name "tuple" q2] [] q3) X.env whole = (do let v ← whole; standAt q3; holding [v] (truthy v)) := by intro _; rfl) :
    WD X ρ (.BoolOp .Or [.UnaryOp .Not (.Call (.Name "isinstance" q1) [a, .Name "tuple" q2] [] q3) q4, .Compare (.Call (.Name "len" q5) [a2] [] q6) [.NotEq] [.Constant (.int n) j p] q7] pos) (!tupN d n) := by
  have e : (!tupN d n) = (!isTup d || !decide ((els d).length = n)) := by unfold tupN; cases isTup d <;> rfl
  rw [e]
  refine wd_or (td_not (td_val (d_isTup G.1 G.2.1 h hg hgT he) hi1)) fun ht => wd_or1 ?_
  have ht' : isTup d = true := by simpa using ht
  exact td_cmp o_neI (d_len (ds := els d) G.2.2 (hB.cast (els_tup ht')) hgl he2) (d_int _) ⟨_, _, rfl, rfl, congrArg Bool.not (dec_cast _ _).symm⟩ (by exact nomark _)
/-- not isinstance(x, tuple) or not lo <= len(x) <= hi -/
theorem wd_tupB {a2 : Expr} {lo hi : Int} {el eh : Expr} (G : X.mg "isinstance" = none ∧ X.mg "tuple" = none ∧ X.mg "len" = none) (h : ED X ρ a d) (hB : ED X ρ a2 d) (h1 : ED X ρ el (.int lo)) (h2 : ED X ρ eh (.int hi)) (hg : Gl X "isinstance" := by rfl) (hgT : Gl X "tuple" := by rfl) (hgl : Gl X "len" := by rfl) {q1 q2 q3 q4 q5 q6 q7 q8 : Pos}
    (he : starEach [a, .Name "tuple" q2] X.env = (false, eval a X.env) :: starEach [.Name "tuple" q2] X.env := by rfl) (he2 : starEach [a2] X.env = (false, eval a2 X.env) :: starEach [] X.env := by rfl)
    (hi1 : ∀ whole, isTrue (.Call (.Name "isinstance" q1) [a, .Name "tuple" q2] [] q3) X.env whole = (do let v ← whole; standAt q3; holding [v] (truthy v)) := by intro _; rfl)
    (hm : lastMarks [.LtE, .LtE] [.Call (.Name "len" q5) [a2] [] q6, eh] = false := by with_unfolding_all rfl) :
    WD X ρ (.BoolOp .Or [.UnaryOp .Not (.Call (.Name "isinstance" q1) [a, .Name "tuple" q2] [] q3) q4, .UnaryOp .Not (.Compare el [.LtE, .LtE] [.Call (.Name "len" q5) [a2] [] q6, eh] q7) q8] pos) (!tupD lo hi (fun _ => true) d) := by
  have e : (!tupD lo hi (fun _ => true) d) = (!isTup d || !(decide (lo ≤ ((els d).length : Int)) && decide (((els d).length : Int) ≤ hi))) := by
    cases d with
    | tuple ds =>
      show (!(decide (lo ≤ (ds.length : Int)) && decide ((ds.length : Int) ≤ hi) && ds.all fun _ => true)) = (false || !(decide (lo ≤ (ds.length : Int)) && decide ((ds.length : Int) ≤ hi)))
      have : (ds.all fun _ => true) = true := by simp
      rw [this, Bool.and_true, Bool.false_or]
    | _ => rfl
  rw [e]
  refine wd_or (td_not (td_val (d_isTup G.1 G.2.1 h hg hgT he) hi1)) fun ht => wd_or1 (td_not ?_)
  have ht' : isTup d = true := by simpa using ht
  exact td_btw h1 (d_len (ds := els d) G.2.2 (hB.cast (els_tup ht')) hgl he2) (fun _ => h2) hm
theorem tup2 (h : tupN d 2 = true) : d = .tuple [at' d 0, at' d 1] := by
  obtain ⟨h1, h2⟩ := tupN_tup h
  cases d with
  | tuple ds => match ds, h2 with | [_, _], _ => rfl
  | _ => cases h1
theorem tup3 (h : tupN d 3 = true) : d = .tuple [at' d 0, at' d 1, at' d 2] := by
  obtain ⟨h1, h2⟩ := tupN_tup h
  cases d with
  | tuple ds => match ds, h2 with | [_, _, _], _ => rfl
  | _ => cases h1
theorem tup4 (h : tupN d 4 = true) : d = .tuple [at' d 0, at' d 1, at' d 2, at' d 3] := by
  obtain ⟨h1, h2⟩ := tupN_tup h
  cases d with
  | tuple ds => match ds, h2 with | [_, _, _, _], _ => rfl
  | _ => cases h1
theorem map_bool (g : PyData → Bool) (ds : List PyData) : ds.map (fun x => PyData.bool (g x)) = (ds.map g).map PyData.bool := by rw [List.map_map]; rfl
section
variable {elt iter : Expr} {scope : Scope}
theorem d_allT (j : Nat) (g : PyData → Bool) (hm : X.mg "all" = none) (hN : X.N.Nodup) (okb : BlkOk X.N X.env.scope scope [(x, j)]) (h : ED X ρ iter (.tuple ds)) (l : ds.length ≤ 200000) (hel : ∀ d ∈ ds, BD X scope (ρ.set j (some d)) elt (.bool (g d)))
    (hg : ∀ (s : Shared) (H : Hp) (C : Addr) (cl : List (Str × Addr)) (fp : List Addr), PG (X.blk s H scope (compEnvC scope cl C X.env) fp) (.Name x pt) (gName j))
    (hgl : Gl X "all" := by rfl) (hc : X.calm = true := by rfl) (hs : ∀ z, foldedSetIterable iter X.env z = pure z := by intro _; rfl)
    (he : starEach [.ListComp elt [⟨.Name x pt, iter, [], 0⟩] scope pc] X.env = (false, eval (.ListComp elt [⟨.Name x pt, iter, [], 0⟩] scope pc) X.env) :: starEach [] X.env := by rfl) :
    ED X ρ (.Call (.Name "all" p) [.ListComp elt [⟨.Name x pt, iter, [], 0⟩] scope pc] [] pos) (.bool (ds.all g)) := by
  have h1 := d_all hm ((d_lcT (pos := pc) (n := 0) j (fun d => .bool (g d)) hN okb h l hel hg hc hs).cast (by rw [map_bool])) hgl hc he (p := p) (pos := pos)
  exact h1.cast (by rw [List.all_map]; rfl)
theorem d_anyT (j : Nat) (g : PyData → Bool) (hm : X.mg "any" = none) (hN : X.N.Nodup) (okb : BlkOk X.N X.env.scope scope [(x, j)]) (h : ED X ρ iter (.tuple ds)) (l : ds.length ≤ 200000) (hel : ∀ d ∈ ds, BD X scope (ρ.set j (some d)) elt (.bool (g d)))
    (hg : ∀ (s : Shared) (H : Hp) (C : Addr) (cl : List (Str × Addr)) (fp : List Addr), PG (X.blk s H scope (compEnvC scope cl C X.env) fp) (.Name x pt) (gName j))
    (hgl : Gl X "any" := by rfl) (hc : X.calm = true := by rfl) (hs : ∀ z, foldedSetIterable iter X.env z = pure z := by intro _; rfl)
    (he : starEach [.ListComp elt [⟨.Name x pt, iter, [], 0⟩] scope pc] X.env = (false, eval (.ListComp elt [⟨.Name x pt, iter, [], 0⟩] scope pc) X.env) :: starEach [] X.env := by rfl) :
    ED X ρ (.Call (.Name "any" p) [.ListComp elt [⟨.Name x pt, iter, [], 0⟩] scope pc] [] pos) (.bool (ds.any g)) := by
  have h1 := d_any hm ((d_lcT (pos := pc) (n := 0) j (fun d => .bool (g d)) hN okb h l hel hg hc hs).cast (by rw [map_bool])) hgl hc he (p := p) (pos := pos)
  exact h1.cast (by rw [List.any_map]; rfl)
end
theorem tupD_no {lo hi : Int} {f : PyData → Bool} (h : tupD lo hi (fun _ => true) d = false) : tupD lo hi f d = false := by
  cases d with
  | tuple ds =>
    have h' : (decide (lo ≤ (ds.length : Int)) && decide ((ds.length : Int) ≤ hi) && ds.all fun _ => true) = false := h
    have e : (ds.all fun _ => true) = true := by simp
    rw [e, Bool.and_true] at h'
    show (decide (lo ≤ (ds.length : Int)) && decide ((ds.length : Int) ≤ hi) && ds.all f) = false
    rw [h']; rfl
  | _ => rfl
theorem tupD_yes {lo hi : Int} {f : PyData → Bool} (h : tupD lo hi (fun _ => true) d = true) : tupD lo hi f d = (els d).all f := by
  cases d with
  | tuple ds =>
    have h' : (decide (lo ≤ (ds.length : Int)) && decide ((ds.length : Int) ≤ hi) && ds.all fun _ => true) = true := h
    have e : (ds.all fun _ => true) = true := by simp
    rw [e, Bool.and_true] at h'
    show (decide (lo ≤ (ds.length : Int)) && decide ((ds.length : Int) ≤ hi) && ds.all f) = ds.all f
    rw [h']; rfl
  | _ => cases h
theorem d_subI {i j : Int} (ha : ED X ρ a (.int i)) (hb : ED X ρ b (.int j)) : ED X ρ (.BinOp a .Sub b pos) (.int (i - j)) := fun S σ H Q sl q =>
  e_subI (ha S σ H _ sl fun v H1 s1 g1 => hb S σ H1 _ (sl.same s1) fun u H2 s2 g2 => by cases g1; cases g2; exact ⟨i, j, rfl, rfl, q _ H2 (s1.trans s2) (.int _)⟩)
theorem d_addI {i j : Int} (ha : ED X ρ a (.int i)) (hb : ED X ρ b (.int j)) : ED X ρ (.BinOp a .Add b pos) (.int (i + j)) := fun S σ H Q sl q =>
  e_addI (ha S σ H _ sl fun v H1 s1 g1 => hb S σ H1 _ (sl.same s1) fun u H2 s2 g2 => by cases g1; cases g2; exact ⟨i, j, rfl, rfl, q _ H2 (s1.trans s2) (.int _)⟩)
theorem nb {b : Bool} (h : (!b) = true) : b = false := by cases b with | false => rfl | true => cases h
theorem nb' {b : Bool} (h : (!b) = false) : b = true := by cases b with | true => rfl | false => cases h
/-- the labels: [x[i] for x in a tuple] -/
theorem labs_data {d : PyData} {i : Nat} (h : ∀ x ∈ els d, ∃ z, at' x i = .str z) : (els d).map (fun x => at' x i) = (labs d i).map PyData.str := by
  unfold labs
  rw [List.map_map]
  refine List.map_congr_left fun x hx => ?_
  obtain ⟨z, e⟩ := h x hx
  show at' x i = PyData.str (My.strOf (at' x i))
  rw [e]; rfl
theorem FnOk.up {P : Program} {w : World} {K : PySem.W.Frag} {mg : Str → Option Value} {base : Heap} {k k' : Nat} {f : Addr} {fd : FuncData} {ps : List Str} {sp : Sp} (h : FnOk P w K mg base CX0 k f fd ps sp) (l : k ≤ k') : FnOk P w K mg base CX0 k' f fd ps sp :=
  ⟨h.len, fun B out s H ar us vs Q E r e b v q => h.run B out s H ar us vs Q E (r.mono l) e b v q⟩
end
end My

namespace My
open PySem PySem.Spec PyProof.Rows L2
def cutD (ds : List PyData) (lo hi : Option Int) : List PyData := (ds.drop (HT.sIx ds.length 0 lo)).take (HT.sIx ds.length ds.length hi - HT.sIx ds.length 0 lo)
theorem DGs.takeG {S : Addr → Prop} {H : Hp} : ∀ {vs : List V} {ds : List PyData} (n : Nat), DGs S H vs ds → DGs S H (vs.take n) (ds.take n)
  | _, _, 0, _ => by simp only [List.take_zero]; exact .nil
  | _, _, _ + 1, .nil => .nil
  | _, _, n + 1, .cons h hs => .cons h (hs.takeG n)
theorem DGs.dropG {S : Addr → Prop} {H : Hp} : ∀ {vs : List V} {ds : List PyData} (n : Nat), DGs S H vs ds → DGs S H (vs.drop n) (ds.drop n)
  | _, _, 0, h => h
  | _, _, _ + 1, .nil => .nil
  | _, _, n + 1, .cons _ hs => hs.dropG n
theorem DGs.cut {S : Addr → Prop} {H : Hp} {vs : List V} {ds : List PyData} (h : DGs S H vs ds) (lo hi : Option Int) : DGs S H (cutV vs lo hi) (cutD ds lo hi) := by
  unfold cutV cutD
  rw [← h.length]
  exact (h.dropG _).takeG _
theorem cut_whole {ds : List PyData} {lo hi : Option Int} (h : HT.sIx ds.length 0 lo = 0 ∧ HT.sIx ds.length ds.length hi = ds.length) : cutD ds lo hi = ds := by
  unfold cutD
  rw [h.1, h.2, Nat.sub_zero, List.drop_zero, List.take_length]
section
variable {X : Cx} {ρ : Rho} {a b c e lo hi : Expr} {es rest : List Expr} {d d1 d2 : PyData} {ds ds2 : List PyData} {pos p p2 p3 pc pt : Pos} {x y : Str} {k m : Bool} {st : Stmt} {l l1 l2 : List Stmt}
theorem slT_end {S : Addr → Prop} {H H2 : Hp} {Q : VK} {v : V} {lo hi : Option Int} (s1 : Same H H2) (g1 : DG S H2 v (.tuple ds)) (q : ∀ v H', Same H H' → DG S H' v (.tuple (cutD ds lo hi)) → Q v H') : rSlA X.K v lo hi H2 Q := by
  obtain ⟨a, xs, rfl, ha, hs, sq⟩ := g1.seq (K := X.K)
  refine ⟨a, xs, rfl, sq, fun hw => ?_, fun _ p hp => q _ _ (s1.trans (same_new hp)) (.tup upd_same ((hs.cut lo hi).same (same_new hp)))⟩
  rw [hs.length] at hw
  refine q _ H2 s1 ?_
  rw [cut_whole hw]
  exact .tup ha hs
theorem d_slFrom {i : Int} (h : ED X ρ e (.tuple ds)) (h1 : ED X ρ lo (.int i)) : ED X ρ (.Subscript e (.Slice (some lo) none none p2) pos) (.tuple (cutD ds (some i) none)) := fun S σ H Q sl q =>
  toE (pe_slice sl_tupA pE (po_some pE) po_none) (h S σ H _ sl fun v H1 s1 g1 => h1 S σ H1 _ (sl.same s1) fun u H2 s2 g2 => by cases g2; exact ⟨i, rfl, slT_end (s1.trans s2) (g1.same s2) q⟩)
theorem d_slTo {i : Int} (h : ED X ρ e (.tuple ds)) (h1 : ED X ρ hi (.int i)) : ED X ρ (.Subscript e (.Slice none (some hi) none p2) pos) (.tuple (cutD ds none (some i))) := fun S σ H Q sl q =>
  toE (pe_slice sl_tupA pE po_none (po_some pE)) (h S σ H _ sl fun v H1 s1 g1 => h1 S σ H1 _ (sl.same s1) fun u H2 s2 g2 => by cases g2; exact ⟨i, rfl, slT_end (s1.trans s2) (g1.same s2) q⟩)
theorem d_sl2 {i j : Int} (h : ED X ρ e (.tuple ds)) (h1 : ED X ρ lo (.int i)) (h2 : ED X ρ hi (.int j)) : ED X ρ (.Subscript e (.Slice (some lo) (some hi) none p2) pos) (.tuple (cutD ds (some i) (some j))) := fun S σ H Q sl q =>
  toE (pe_slice sl_tupA pE (po_some pE) (po_some pE)) (h S σ H _ sl fun v H1 s1 g1 => h1 S σ H1 _ (sl.same s1) fun u H2 s2 g2 => by
    cases g2
    exact ⟨i, rfl, h2 S σ H2 _ (sl.same (s1.trans s2)) fun u2 H3 s3 g3 => by cases g3; exact ⟨j, rfl, slT_end (s1.trans (s2.trans s3)) ((g1.same s2).same s3) q⟩⟩)
/-! not in -/
theorem o_notInS : OpR X (compareOp .NotIn) (rP fun d e b => ∃ (z : Str) (zs : List Str), d = .str z ∧ e = .tuple (zs.map PyData.str) ∧ b = !decide (z ∈ zs)) := fun pins s σ H x y v u Q I rx ry ⟨S, d, e, b, g1, g2, ⟨z, zs, e1, e2, e3⟩, q⟩ => by
  subst e1 e2 e3
  cases g1
  obtain ⟨a, xs, rfl, ha, hs, sq⟩ := g2.seq (K := X.K)
  rw [strsE hs] at sq
  refine op_notIn_seq pins s σ H _ _ v u Q I rx ry ⟨a, _, rfl, .inr sq, rfl, flat_strs' _, ?_⟩
  show Q (.bl (!inV (.str z) (zs.map V.str))) H
  rw [inV_strs]
  exact q
theorem o_notInI : OpR X (compareOp .NotIn) (rP fun d e b => ∃ (i : Int) (is : List Int), d = .int i ∧ e = .tuple (is.map PyData.int) ∧ b = !decide (i ∈ is)) := fun pins s σ H x y v u Q I rx ry ⟨S, d, e, b, g1, g2, ⟨i, is, e1, e2, e3⟩, q⟩ => by
  subst e1 e2 e3
  cases g1
  obtain ⟨a, xs, rfl, ha, hs, sq⟩ := g2.seq (K := X.K)
  have ex : ∀ {xs : List V} {is : List Int}, DGs S H xs (is.map PyData.int) → xs = is.map V.int ∧ (xs.all flatV) = true ∧ inV (.int i) xs = decide (i ∈ is) := fun {xs is} h => by
    induction is generalizing xs with
    | nil => cases h; exact ⟨rfl, rfl, rfl⟩
    | cons j is ih =>
      cases h with
      | cons h hs =>
        cases h
        obtain ⟨e1, e2, e3⟩ := ih hs
        refine ⟨by rw [e1]; rfl, by rw [List.all_cons, e2]; rfl, ?_⟩
        show ((eqV (.int j) (.int i)) || inV (.int i) _) = _
        rw [e3]
        apply Bool.eq_iff_iff.mpr
        rw [Bool.or_eq_true, decide_eq_true_eq, decide_eq_true_eq, List.mem_cons]
        have : eqV (.int j) (.int i) = true ↔ i = j := by
          show ((j == i) = true) ↔ i = j
          rw [beq_iff_eq]
          exact eq_comm
        rw [this]
  obtain ⟨e1, e2, e3⟩ := ex hs
  refine op_notIn_seq pins s σ H _ _ v u Q I rx ry ⟨a, _, rfl, .inr sq, rfl, e2, ?_⟩
  show Q (.bl (!inV (.int i) xs)) H
  rw [e3]
  exact q
/-- 'a' <= x <= 'z', texts -/
theorem d_btwS {i j o : Str} (ha : ED X ρ a (.str i)) (hb : ED X ρ b (.str j)) (hc : ED X ρ c (.str o)) (hm : lastMarks [.LtE, .LtE] [b, c] = false := by with_unfolding_all rfl) : ED X ρ (.Compare a [.LtE, .LtE] [b, c] pos) (.bool (!decide (lt j i) && !decide (lt o j))) := fun S σ H Q sl q =>
  e_btwS (ha S σ H _ sl fun v H1 s1 g1 => hb S σ H1 _ (sl.same s1) fun u H2 s2 g2 => by
    cases g1; cases g2
    refine ⟨i, j, rfl, rfl, fun h => hc S σ H2 _ (sl.same (s1.trans s2)) fun w H3 s3 g3 => ?_, fun h => ?_⟩
    · cases g3
      have h' : ¬ lt j i := h
      rw [decide_eq_false h', Bool.not_false, Bool.true_and] at q
      exact ⟨o, rfl, q _ H3 (s1.trans (s2.trans s3)) (.bl _)⟩
    · have h' : lt j i := h
      rw [decide_eq_true h', Bool.not_true, Bool.false_and] at q
      exact q _ H2 (s1.trans s2) (.bl _)) hm

section
variable {elt iter : Expr} {scope : Scope}
theorem d_allS {z : Str} (j : Nat) (g : Nat → Bool) (hm : X.mg "all" = none) (hN : X.N.Nodup) (okb : BlkOk X.N X.env.scope scope [(x, j)]) (h : ED X ρ iter (.str z)) (l : z.length ≤ 200000) (hel : ∀ c ∈ z.cps.toList, BD X scope (ρ.set j (some (.str ⟨#[c]⟩))) elt (.bool (g c)))
    (hg : ∀ (s : Shared) (H : Hp) (C : Addr) (cl : List (Str × Addr)) (fp : List Addr), PG (X.blk s H scope (compEnvC scope cl C X.env) fp) (.Name x pt) (gName j))
    (hgl : Gl X "all" := by rfl) (hc : X.calm = true := by rfl) (hs : ∀ z, foldedSetIterable iter X.env z = pure z := by intro _; rfl)
    (he : starEach [.ListComp elt [⟨.Name x pt, iter, [], 0⟩] scope pc] X.env = (false, eval (.ListComp elt [⟨.Name x pt, iter, [], 0⟩] scope pc) X.env) :: starEach [] X.env := by rfl) :
    ED X ρ (.Call (.Name "all" p) [.ListComp elt [⟨.Name x pt, iter, [], 0⟩] scope pc] [] pos) (.bool (z.cps.toList.all g)) := by
  have h1 := d_all hm ((d_lcS (pos := pc) j (fun c => .bool (g c)) hN okb h l hel hg hc hs).cast (by rw [show (fun c => PyData.bool (g c)) = PyData.bool ∘ g from rfl, ← List.map_map])) hgl hc he (p := p) (pos := pos)
  exact h1.cast (by rw [List.all_map]; rfl)
end
/-! defs that may ask a repr -/
theorem d_fnG {kk j : Nat} {f : PyData → Bool} (cF : CalG X.prog X.w X.K X.mg X.base kk x (spB f)) (hr : Room j X.A) (hG : X.A.guards = some []) (hk : kk ≤ j) (h : ED X ρ e d) (ok : okS d = true) (hg : Gl X x := by rfl)
    (hdb : (x == ("__debug__" : Str)) = false := by decide) (he : starEach [e] X.env = (false, eval e X.env) :: starEach [] X.env := by rfl) : ED X ρ (.Call (.Name x p) [e] [] pos) (.bool (f d)) := fun S σ H Q sl q =>
  e_cG cF hr hG hk (a_cons (h S σ H _ sl fun v H1 s1 g1 => a_nil ⟨S, v, d, rfl, g1, ok, fun H2 s2 => q _ H2 (s1.trans s2) (.bl _)⟩) he) hg hdb he rfl
theorem FnG.to {P : Program} {w : World} {K : PySem.W.Frag} {mg : Str → Option Value} {base : Heap} {k : Nat} {f : Addr} {fd : FuncData} {ps : List Str} {sp sp' : Sp} (h : FnG P w K mg base k f fd ps sp) (i : ∀ vs H Q E, sp' vs H Q E → sp vs H Q E) : FnG P w K mg base k f fd ps sp' :=
  ⟨fun vs H Q E q => h.len vs H Q E (i vs H Q E q), fun B out s H ar us vs Q E r g e b v q => h.go B out s H ar us vs Q E r g e b v (i vs H Q E q)⟩
theorem Fun.ok1G {P : Program} {w : World} {K : PySem.W.Frag} {mg : Str → Option Value} {base : Heap} {x qual : Str} {st : Stmt} {f : Addr} {fd : FuncData} {N : List Str} {y : Str} {k : Nat} {φ : PyData → Bool} (F : Fun K x qual st f fd) (S : FnScope N [y] (defScope st))
    (body : ∀ (cdv : Value) (B : Around) (out : List Env) (s : Shared) (H : Hp) (E : XK) (d : PyData), Room k (B.deeper (envOfC qual (defScope st) s.heap.objs.size f cdv)) → (B.deeper (envOfC qual (defScope st) s.heap.objs.size f cdv)).guards = some [] → okS d = true →
      LD (cxOf CX0 P w K mg base N qual (defScope st) f cdv B out s H E).nox (startD N [d]) (defBody st) (.ret (.bool (φ d)))) : FnG P w K mg base (k + 1) f fd [y] (spB φ) :=
  FnG.to (Fun.okDG (Fn := F1 φ) F S F1_len fun cdv B out s H E ds r hr hG h => by
    obtain ⟨d, rfl, hk, rfl⟩ := F1_inv h
    exact body cdv B out s H E d hr hG hk) fun vs H Q E h => spB_D' h
end


theorem shaped_listS {zs : List Str} (h : zs.all valS = true) : SeqAt.shaped (.list (zs.map PyData.str)) = true := by
  show (PyData.canLayAll0 (zs.map PyData.str) && decide (PyData.depthAll (zs.map PyData.str) + 1 ≤ 64)) = true
  rw [lay_strs h, depth_strs]
  rfl
theorem eqvL_strs (zs ys : List Str) : PyData.eqv (.list (zs.map PyData.str)) (.list (ys.map PyData.str)) = decide (zs = ys) := eqv_strs zs ys
theorem eqvT_strs (zs ys : List Str) : PyData.eqv (.tuple (zs.map PyData.str)) (.tuple (ys.map PyData.str)) = decide (zs = ys) := eqv_strs zs ys
/-! ### which data have the text of a word -/
theorem rt_fold (q : Nat) : ∀ (l : List Nat) (acc : Array Nat), (l.foldl (fun out c => out ++ (Builtin.Str.reprChar q c).toArray) acc).toList = acc.toList ++ l.flatMap (Builtin.Str.reprChar q)
  | [], acc => by simp
  | c :: l, acc => by
    rw [List.foldl_cons, rt_fold q l, Array.toList_append, List.flatMap_cons, List.append_assoc]
theorem rt_codes (z : Str) : (reprText z).cps.toList = reprQuote z :: (z.cps.toList.flatMap (Builtin.Str.reprChar (reprQuote z)) ++ [reprQuote z]) := by
  unfold reprText
  show ((z.cps.foldl (fun out c => out ++ (Builtin.Str.reprChar (reprQuote z) c).toArray) #[reprQuote z]).push (reprQuote z)).toList = _
  rw [Array.toList_push, ← Array.foldl_toList, rt_fold]
  rfl
theorem rc_or (c : Nat) : Builtin.Str.reprChar 39 c = [c] ∨ 92 ∈ Builtin.Str.reprChar 39 c := by
  unfold Builtin.Str.reprChar
  dsimp only
  split
  · exact .inr (by simp)
  · split
    · exact .inr (by simp)
    · split
      · exact .inr (by simp)
      · split
        · exact .inr (by simp)
        · split
          · exact .inl rfl
          · split
            · exact .inr (by simp)
            · split
              · exact .inr (by simp)
              · exact .inr (by simp)
theorem rc_low : ∀ c, 97 ≤ c → c ≤ 122 → Builtin.Str.reprChar 39 c = [c] := by
  have h : ∀ k, k < 26 → Builtin.Str.reprChar 39 (97 + k) = [97 + k] := by decide +kernel
  intro c h1 h2
  have := h (c - 97) (by omega)
  rwa [show 97 + (c - 97) = c by omega] at this
theorem flat_id (f : Nat → List Nat) : ∀ l : List Nat, (∀ c ∈ l, f c = [c]) → l.flatMap f = l
  | [], _ => rfl
  | c :: l, h => by
    rw [List.flatMap_cons, h c List.mem_cons_self, flat_id f l fun x hx => h x (List.mem_cons_of_mem _ hx)]
    rfl
def lowB (w : Str) : Bool := w.cps.toList.all fun c => decide (97 ≤ c) && decide (c ≤ 122)
theorem rt_low {w : Str} (h : lowB w = true) : (reprText w).cps.toList = 39 :: (w.cps.toList ++ [39]) := by
  have hw : ∀ c ∈ w.cps.toList, 97 ≤ c ∧ c ≤ 122 := fun c hc => by
    have := List.all_eq_true.mp h c hc
    rwa [Bool.and_eq_true, decide_eq_true_eq, decide_eq_true_eq] at this
  have q : reprQuote w = 39 := by
    unfold reprQuote
    have : w.cps.contains 39 = false := by
      cases e : w.cps.contains 39 with
      | false => rfl
      | true =>
        have m := Array.contains_iff.mp e
        have := hw 39 (Array.mem_toList_iff.mpr m)
        omega
    rw [this]; rfl
  rw [rt_codes, q, flat_id _ _ fun c hc => rc_low c (hw c hc).1 (hw c hc).2]
theorem head_cat (a : Nat) (x y : Str) (h : x.cps.toList.head? = some a) : (x ++ y).cps.toList.head? = some a := by
  rw [str_cat]
  cases e : x.cps.toList with
  | nil => rw [e] at h; cases h
  | cons b l => rw [e] at h; exact h
theorem shown_head {d : PyData} (hd : okE d = true) (h : isStr d = false) : d.shown.cps.toList.head? ≠ some 39 := by
  match d, hd, h with
  | .none, _, _ => decide +kernel
  | .bool true, _, _ => decide +kernel
  | .bool false, _, _ => decide +kernel
  | .int i, hd, _ =>
    have h' : ((PyData.int i).showable && decide ((PyData.int i).shown.length ≤ 60) && decide ((PyData.int i).shown.cps.toList.head? ≠ some 39)) = true := hd
    rw [Bool.and_eq_true] at h'
    exact of_decide_eq_true h'.2
  | .list ds, _, _ =>
    intro e
    have e2 : (PyData.list ds).shown = listText (PyData.shownAll ds) := by simp only [PyData.shown]
    rw [e2, listText_eq_join, head_cat 91 _ _ (head_cat 91 _ _ (by decide +kernel))] at e
    cases e
  | .tuple ds, _, _ =>
    intro e
    have e2 : (PyData.tuple ds).shown = tupleText (PyData.shownAll ds) := by simp only [PyData.shown]
    rw [e2] at e
    unfold tupleText at e
    rw [head_cat 40 _ _ (head_cat 40 _ _ (by decide +kernel))] at e
    cases e
  | .dict kvs, _, _ =>
    intro e
    have e2 : (PyData.dict kvs).shown = dictText (PyData.shownKv kvs) := by simp only [PyData.shown]
    rw [e2] at e
    unfold dictText at e
    rw [head_cat 123 _ _ (head_cat 123 _ _ (by decide +kernel))] at e
    cases e
  | .str _, _, h => cases h
theorem shown_is {d : PyData} {w t : Str} (hd : okE d = true) (hw : lowB w = true) (ht : t = reprText w) : decide (d.shown = t) = eqS d w := by
  subst ht
  apply Bool.eq_iff_iff.mpr
  rw [decide_eq_true_eq]
  cases hs : isStr d with
  | false =>
    have e : eqS d w = false := by cases d <;> first | rfl | cases hs
    rw [e]
    refine ⟨fun h => ?_, fun h => by cases h⟩
    have := shown_head hd hs
    rw [h, rt_low hw] at this
    exact absurd rfl this
  | true =>
    cases d with
    | str z =>
      show reprText z = reprText w ↔ decide (z = w) = true
      rw [decide_eq_true_eq]
      refine ⟨fun h => ?_, fun h => by rw [h]⟩
      have h2 : (reprText z).cps.toList = (reprText w).cps.toList := by rw [h]
      rw [rt_low hw, rt_codes] at h2
      injection h2 with q h3
      rw [q] at h3
      have h4 := List.append_cancel_right h3
      have hall : ∀ c ∈ z.cps.toList, Builtin.Str.reprChar 39 c = [c] := fun c hc => by
        rcases rc_or c with e | e
        · exact e
        · exfalso
          have m : 92 ∈ w.cps.toList := by rw [← h4]; exact List.mem_flatMap.mpr ⟨c, hc, e⟩
          have := List.all_eq_true.mp hw 92 m
          simp at this
      rw [flat_id _ _ hall] at h4
      exact str_ext h4
    | _ => cases hs
end My

namespace My
open PySem PySem.Spec PyProof.Rows L2
def lenB (d : PyData) : Bool := isStr d && (decide (1 ≤ (My.strOf d).length) && decide ((My.strOf d).length ≤ 8))
theorem isStr_eq {d : PyData} (h : isStr d = true) : d = .str (My.strOf d) := by cases d <;> first | rfl | cases h
theorem dec_le (a b : Nat) : decide ((a : Int) ≤ (b : Int)) = decide (a ≤ b) := by
  apply Bool.eq_iff_iff.mpr
  rw [decide_eq_true_eq, decide_eq_true_eq]
  exact Int.ofNat_le
theorem valD_len (d : PyData) : valD d = (lenB d && (My.strOf d).cps.toList.all letB) := by
  cases d with
  | str z =>
    show (decide (1 ≤ z.length) && decide (z.length ≤ 8) && z.cps.toList.all letB) = ((true && (decide (1 ≤ z.length) && decide (z.length ≤ 8))) && z.cps.toList.all letB)
    rw [Bool.true_and]
  | _ => rfl
section
variable {X : Cx} {ρ : Rho} {a a2 b c e : Expr} {es rest : List Expr} {d d1 d2 : PyData} {ds ds2 : List PyData} {pos p p2 p3 pc pt : Pos} {x y : Str} {k m : Bool}
/-- not isinstance(x, str) or not 1 <= len(x) <= 8 -/
theorem wd_strB1 {j1 j2 q10 q11} (G : X.mg "isinstance" = none ∧ X.mg "str" = none ∧ X.mg "len" = none) (h : ED X ρ a d) (hB : ED X ρ a2 d) (ok : okS d = true) (hg : Gl X "isinstance" := by rfl) (hgT : Gl X "str" := by rfl) (hgl : Gl X "len" := by rfl) {q1 q2 q3 q4 q5 q6 q7 q8 : Pos}
    (he : starEach [a, .Name "str" q2] X.env = (false, eval a X.env) :: starEach [.Name "str" q2] X.env := by rfl) (he2 : starEach [a2] X.env = (false, eval a2 X.env) :: starEach [] X.env := by rfl)
    (hi1 : ∀ whole, isTrue (.Call (.Name "isinstance" q1) [a, .Name "str" q2] [] q3) X.env whole = (do let v ← whole; standAt q3; holding [v] (truthy v)) := by intro _; rfl)
    (hm : lastMarks [.LtE, .LtE] [.Call (.Name "len" q5) [a2] [] q6, .Constant (.int 8) j2 q11] = false := by with_unfolding_all rfl) :
    WD X ρ (.BoolOp .Or [.UnaryOp .Not (.Call (.Name "isinstance" q1) [a, .Name "str" q2] [] q3) q4, .UnaryOp .Not (.Compare (.Constant (.int 1) j1 q10) [.LtE, .LtE] [.Call (.Name "len" q5) [a2] [] q6, .Constant (.int 8) j2 q11] q7) q8] pos) (!lenB d) := by
  have e : (!lenB d) = (!isStr d || !(decide ((1 : Int) ≤ ((My.strOf d).length : Int)) && decide (((My.strOf d).length : Int) ≤ (8 : Int)))) := by
    unfold lenB
    rw [show decide ((1 : Int) ≤ ((My.strOf d).length : Int)) = decide (1 ≤ (My.strOf d).length) from dec_le 1 _, show decide (((My.strOf d).length : Int) ≤ (8 : Int)) = decide ((My.strOf d).length ≤ 8) from dec_le _ 8]
    cases isStr d <;> rfl
  rw [e]
  refine wd_or (td_not (td_val (d_isStr G.1 G.2.1 h hg hgT he) hi1)) fun ht => wd_or1 (td_not ?_)
  have hs := nb' ht
  have hz : (My.strOf d).length ≤ sizeLine := str_line (by rw [← isStr_eq hs]; exact ok)
  exact td_btw (d_int 1) (d_lenS G.2.2 hz (hB.cast (isStr_eq hs)) hgl he2) (fun _ => d_int 8) hm
theorem wd_strB {j1 j2 q10 q11} (G : X.mg "isinstance" = none ∧ X.mg "str" = none ∧ X.mg "len" = none) (h : ED X ρ a d) (hB : ED X ρ a2 d) (ok : okS d = true) (hr : lenB d = true → WD X ρ (.BoolOp .Or (b :: rest) pos) m) (hg : Gl X "isinstance" := by rfl) (hgT : Gl X "str" := by rfl) (hgl : Gl X "len" := by rfl) {q1 q2 q3 q4 q5 q6 q7 q8 : Pos}
    (he : starEach [a, .Name "str" q2] X.env = (false, eval a X.env) :: starEach [.Name "str" q2] X.env := by rfl) (he2 : starEach [a2] X.env = (false, eval a2 X.env) :: starEach [] X.env := by rfl)
    (hi1 : ∀ whole, isTrue (.Call (.Name "isinstance" q1) [a, .Name "str" q2] [] q3) X.env whole = (do let v ← whole; standAt q3; holding [v] (truthy v)) := by intro _; rfl)
    (hm : lastMarks [.LtE, .LtE] [.Call (.Name "len" q5) [a2] [] q6, .Constant (.int 8) j2 q11] = false := by with_unfolding_all rfl) :
    WD X ρ (.BoolOp .Or (.UnaryOp .Not (.Call (.Name "isinstance" q1) [a, .Name "str" q2] [] q3) q4 :: .UnaryOp .Not (.Compare (.Constant (.int 1) j1 q10) [.LtE, .LtE] [.Call (.Name "len" q5) [a2] [] q6, .Constant (.int 8) j2 q11] q7) q8 :: b :: rest) pos) (!lenB d || m) := by
  have e0 : lenB d = (isStr d && (decide ((1 : Int) ≤ ((My.strOf d).length : Int)) && decide (((My.strOf d).length : Int) ≤ (8 : Int)))) := by
    unfold lenB
    rw [show decide ((1 : Int) ≤ ((My.strOf d).length : Int)) = decide (1 ≤ (My.strOf d).length) from dec_le 1 _, show decide (((My.strOf d).length : Int) ≤ (8 : Int)) = decide ((My.strOf d).length ≤ 8) from dec_le _ 8]
  have e : (!lenB d || m) = (!isStr d || (!(decide ((1 : Int) ≤ ((My.strOf d).length : Int)) && decide (((My.strOf d).length : Int) ≤ (8 : Int))) || m)) := by
    rw [e0]
    cases isStr d <;> cases (decide ((1 : Int) ≤ ((My.strOf d).length : Int)) && decide (((My.strOf d).length : Int) ≤ (8 : Int))) <;> rfl
  rw [e]
  refine wd_or (td_not (td_val (d_isStr G.1 G.2.1 h hg hgT he) hi1)) fun ht => ?_
  have hs := nb' ht
  have hz : (My.strOf d).length ≤ sizeLine := str_line (by rw [← isStr_eq hs]; exact ok)
  exact wd_or (td_not (td_btw (d_int 1) (d_lenS G.2.2 hz (hB.cast (isStr_eq hs)) hgl he2) (fun _ => d_int 8) hm)) fun h2 => hr (by rw [e0, hs, nb' h2]; rfl)

section
variable {scope : Scope} {iter : Expr} {ja jz : _} {qa qb qc qd : Pos}
theorem d_letters (j : Nat) (hm : X.mg "all" = none) (hN : X.N.Nodup) (okb : BlkOk X.N X.env.scope scope [(x, j)]) (h : ED X ρ iter d) (hd : lenB d = true)
    (hel : ∀ c : Nat, BD X scope (ρ.set j (some (.str ⟨#[c]⟩))) (.Name x qb) (.str ⟨#[c]⟩))
    (hg : ∀ (s : Shared) (H : Hp) (C : Addr) (cl : List (Str × Addr)) (fp : List Addr), PG (X.blk s H scope (compEnvC scope cl C X.env) fp) (.Name x pt) (gName j))
    (hgl : Gl X "all" := by rfl) (hc : X.calm = true := by rfl) (hs : ∀ z, foldedSetIterable iter X.env z = pure z := by intro _; rfl)
    (he : starEach [.ListComp (.Compare (.Constant (.str "a") ja qa) [.LtE, .LtE] [.Name x qb, .Constant (.str "z") jz qc] qd) [⟨.Name x pt, iter, [], 0⟩] scope pc] X.env = (false, eval (.ListComp (.Compare (.Constant (.str "a") ja qa) [.LtE, .LtE] [.Name x qb, .Constant (.str "z") jz qc] qd) [⟨.Name x pt, iter, [], 0⟩] scope pc) X.env) :: starEach [] X.env := by rfl) :
    ED X ρ (.Call (.Name "all" p) [.ListComp (.Compare (.Constant (.str "a") ja qa) [.LtE, .LtE] [.Name x qb, .Constant (.str "z") jz qc] qd) [⟨.Name x pt, iter, [], 0⟩] scope pc] [] pos) (.bool ((My.strOf d).cps.toList.all letB)) := by
  have hs1 : isStr d = true := by unfold lenB at hd; rw [Bool.and_eq_true] at hd; exact hd.1
  have hl : (My.strOf d).length ≤ 8 := by unfold lenB at hd; rw [Bool.and_eq_true, Bool.and_eq_true] at hd; exact of_decide_eq_true hd.2.2
  refine d_allS j letB hm hN okb (h.cast (isStr_eq hs1)) (by omega) (fun c hc => ?_) hg hgl hc hs he
  intro s0 H00 C cl fp
  have e : letB c = (!decide (lt (⟨#[c]⟩ : Str) (Str.ofString "a")) && !decide (lt (Str.ofString "z") (⟨#[c]⟩ : Str))) := let_btw c
  rw [e]
  exact d_btwS (d_str _) (hel c s0 H00 C cl fp) (d_str _) (by with_unfolding_all rfl)
end
end
theorem SD.cast {X : Cx} {ρ : Rho} {st : Stmt} {o o' : Out} (h : SD X ρ st o) (e : o = o') : SD X ρ st o' := e ▸ h
section
variable {X : Cx} {ρ : Rho} {iter elt : Expr} {ds : List PyData} {pos spos py pt : Pos} {x y : Str} {scope : Scope}
theorem lcT_core (j : Nat) (f : PyData → PyData) {S : Addr → Prop} {σ : L2.St} {H : Hp} {Kq : Addr → Hp → Prop} (h : ED X ρ iter (.tuple ds)) (l : ds.length ≤ 200000) (hel : ∀ d ∈ ds, BD X scope (ρ.set j (some d)) elt (f d)) (sl : SL S H σ ρ) (q : ∀ Dn H', Same H H' → DG S H' (.ref Dn) (.list (ds.map f)) → Kq Dn H') :
    WE X iter σ H fun v H1 => ∃ a xs, v = .ref a ∧ SqT X.K H1 a xs ∧ ∀ D, H1 D = none → ∃ Pv : Nat → Hp → Prop, Pv 0 (L2.upd H1 D (.lst [])) ∧ (∀ i H, i ≤ xs.length → Pv i H → SqT X.K H a xs) ∧
      (∀ i y H, xs[i]? = some y → Pv i H → WB X scope elt ((L2.wipe σ [j]).set j (some y)) H fun z H4 => ∃ acc, H4 D = some (.lst acc) ∧ acc.length < sizeLine ∧ Pv (i + 1) (L2.upd H4 D (.lst (acc ++ [z])))) ∧ ∀ H, Pv xs.length H → Kq D H := by
  refine h S σ H _ sl fun v H1 s1 g1 => ?_
  obtain ⟨a, xs, rfl, ha, hds, sq⟩ := g1.seq (K := X.K)
  refine ⟨a, xs, rfl, sq, fun D nD => ?_⟩
  have sl1 := sl.same s1
  have slD := sl1.and1 (o := .lst []) nD
  have hdsD := hds.mono (T := And1 S D) (My.Same.tups (same_new (o := .lst []) nD)) fun a u n e => ⟨fun z => z.elim n fun z => (by rw [z, nD] at e; cases e), by rw [upd_ne (ne_of_none e nD)]; exact e⟩
  have lx := hds.length
  refine ⟨fun i H' => ∃ ys, (∀ b o, b ≠ D → (L2.upd H1 D (.lst [])) b = some o → H' b = some o) ∧ H' D = some (.lst ys) ∧ ys.length = i ∧ DGs (And1 S D) H' ys ((ds.take i).map f), ?_, ?_, ?_, ?_⟩
  · exact ⟨[], fun b o _ e => e, upd_same, rfl, .nil⟩
  · rintro i H' _ ⟨ys, k1, _⟩
    exact .inl (.inl (k1 a _ (ne_of_none ha nD) (same_new nD _ _ ha)))
  · rintro i y H' hi ⟨ys, k1, k2, k3, k4⟩ s0 H00 C cl fp
    obtain ⟨d, hd, hy⟩ := hdsD.get hi
    have keep : ∀ {v : V} {d : PyData}, DG (And1 S D) (L2.upd H1 D (.lst [])) v d → DG (And1 S D) H' v d := fun g => g.mono (fun b xs e => k1 b _ (ne_of e upd_same (fun z => by cases z)) e) fun a o n e => ⟨n, k1 a o (fun z => n (.inr z)) e⟩
    have slp : SL (And1 S D) H' σ ρ := ⟨fun b z w => by
      cases e : (L2.upd H1 D (.lst [])) b with
      | none => exact slD.dom b z e
      | some o =>
        by_cases bD : b = D
        · rw [bD, k2] at w; cases w
        · (rw [k1 b o bD e] at w; cases w), fun i d q => let ⟨v, a, b⟩ := slD.look i d q; ⟨v, a, keep b⟩, slD.len⟩
    have sl2 := SL.set (i := j) slp (keep hy)
    have ew : (L2.wipe σ [j]).set j (some y) = σ.set j (some y) := by show (σ.set j none).set j (some y) = _; rw [List.set_set]
    rw [ew]
    refine hel d (List.mem_of_getElem? hd) s0 H00 C cl fp (And1 S D) _ H' _ sl2 fun z H4 s4 g4 => ?_
    have h4 := s4 _ _ k2
    refine ⟨ys, h4, by rw [k3]; exact Nat.lt_of_lt_of_le (show i < 200001 by have := (List.getElem?_eq_some_iff.mp hd).1; omega) (by decide), ys ++ [z], fun b o n e => ?_, upd_same, by rw [List.length_append, k3]; rfl, ?_⟩
    · rw [upd_ne n]; exact s4 _ _ (k1 b o n e)
    · have lt : i < ds.length := (List.getElem?_eq_some_iff.mp hd).1
      have e : ds[i] = d := by rw [List.getElem?_eq_getElem lt] at hd; exact Option.some.inj hd
      rw [List.take_succ_eq_append_getElem lt, List.map_append, e]
      exact ((k4.same s4).append (.cons g4 .nil)).put h4
  · rintro H' ⟨ys, k1, k2, k3, k4⟩
    rw [lx, List.take_length] at k4
    refine q D H' (s1.trans fun b o e => k1 b o (ne_of_none e nD) (same_new nD b o e)) (.lst k2 (fun z => sl1.dom D z nD) k4.un1)
/-- y = [elt for x in iter] as a statement -/
theorem sd_lcT (i j : Nat) (f : PyData → PyData) (hN : X.N.Nodup) (okb : BlkOk X.N X.env.scope scope [(x, j)]) (h : ED X ρ iter (.tuple ds)) (l : ds.length ≤ 200000) (hel : ∀ d ∈ ds, BD X scope (ρ.set j (some d)) elt (f d))
    (hg : ∀ (s : Shared) (H : Hp) (C : Addr) (cl : List (Str × Addr)) (fp : List Addr), PG (X.blk s H scope (compEnvC scope cl C X.env) fp) (.Name x pt) (gName j))
    (hsw : swapsWith (.ListComp elt [⟨.Name x pt, iter, [], 0⟩] scope pos) (some (.Name y py)) spos.line X.env = pure true) (hy : X.N[i]? = some y := by rfl) (hyl : X.env.scope.names.lookup y = some .local := by rfl)
    (hc : X.calm = true := by rfl) (hs : ∀ z, foldedSetIterable iter X.env z = pure z := by intro _; rfl) : SD X ρ (.Assign [.Name y py] (.ListComp elt [⟨.Name x pt, iter, [], 0⟩] scope pos) spos) (.nx (ρ.set i (some (.list (ds.map f))))) := fun S σ H D sl q =>
  toS (ps_setLc (own := [(x, j)]) (te := WB X scope elt) hc hN hy hyl hsw (pi_tup pE) okb hg (fun _ _ _ _ _ => pts_nil) (fun s H0 C cl fp => ⟨fun pins s' σ' H' Q' I q => (q s H0 C cl fp).go pins s' I⟩) hs)
    (WE.mono (lcT_core j f h l hel sl (Kq := fun Dn H' => D.nx (σ.set i (some (.ref Dn))) H') fun Dn H' s g => q _ H' s ((sl.same s).set g)) fun v H1 ⟨a, xs, e, hS, k⟩ => ⟨a, e, ⟨xs, hS⟩, fun Dn nD => by
      obtain ⟨Pv, p0, pl, ps, pd⟩ := k Dn nD
      exact lc_tup (g := gName j) (tt := tYes) (te := WB X scope elt) (vs := [j]) (σ := σ) Pv p0 pl (fun i y H hi p => ⟨set_wipe σ j y, ps i y H hi p⟩) pd⟩)
end
end My

namespace My
open PySem PySem.Spec PyProof.Rows L2
section
variable {X : Cx} {o : Expr} {σ : L2.St} {H : Hp} {Q : VK} {pos apos : Pos}
/-- o.isascii(), o.isalpha(), o.islower() of a text -/
theorem e_isascii (h : WE X o σ H fun x H1 => ∃ z, x = .str z ∧ Q (.bl (Txt.isascii z)) H1)
    (hbase : attributeBase o "isascii" X.env (eval o X.env) = eval o X.env := by rfl) (hline : (apos.endLine == pos.line) = true := by rfl) : WE X (.Call (.Attribute o "isascii" apos) [] [] pos) σ H Q :=
  toE (pe_bm0 PySem.F.plainAttrs_str PySem.F.slot_str_isascii PySem.F.type_str_isascii mt_isascii pE hbase hline) (WE.mono h fun x H1 ⟨z, e, q⟩ => by
    subst e
    exact ⟨rfl, z, rfl, rfl, trivial, q⟩)
theorem e_isalpha (h : WE X o σ H fun x H1 => ∃ z, x = .str z ∧ Q (.bl (Txt.isalpha z)) H1)
    (hbase : attributeBase o "isalpha" X.env (eval o X.env) = eval o X.env := by rfl) (hline : (apos.endLine == pos.line) = true := by rfl) : WE X (.Call (.Attribute o "isalpha" apos) [] [] pos) σ H Q :=
  toE (pe_bm0 PySem.F.plainAttrs_str PySem.F.slot_str_isalpha PySem.F.type_str_isalpha mt_isalpha pE hbase hline) (WE.mono h fun x H1 ⟨z, e, q⟩ => by
    subst e
    exact ⟨rfl, z, rfl, rfl, trivial, q⟩)
theorem e_islower (h : WE X o σ H fun x H1 => ∃ z, x = .str z ∧ Q (.bl (Txt.islower z)) H1)
    (hbase : attributeBase o "islower" X.env (eval o X.env) = eval o X.env := by rfl) (hline : (apos.endLine == pos.line) = true := by rfl) : WE X (.Call (.Attribute o "islower" apos) [] [] pos) σ H Q :=
  toE (pe_bm0 PySem.F.plainAttrs_str PySem.F.slot_str_islower PySem.F.type_str_islower mt_islower pE hbase hline) (WE.mono h fun x H1 ⟨z, e, q⟩ => by
    subst e
    exact ⟨rfl, z, rfl, rfl, trivial, q⟩)
end
def lowC (c : Nat) : Bool := decide (c ∈ ("abcdefghijklmnopqrstuvwxyz" : Str).cps.toList)
theorem lowC_1 : ∀ c < 128, (Unicode.isAlpha c && !(Unicode.isUpper c || Unicode.isTitle c)) = lowC c := by decide +kernel
theorem lowC_2 : ∀ c < 128, lowC c = true → Unicode.isLower c = true := by decide +kernel
theorem lowC_3 (c : Nat) (h : lowC c = true) : c < 128 := by
  have h' : c ∈ ("abcdefghijklmnopqrstuvwxyz" : Str).cps.toList := of_decide_eq_true h
  have : ∀ x ∈ ("abcdefghijklmnopqrstuvwxyz" : Str).cps.toList, x < 128 := by decide +kernel
  exact this c h'
/-- lowercase letters alone, and one at least -/
theorem low_eq (z : Str) : (Txt.isascii z && (Txt.isalpha z && Txt.islower z)) = (decide (1 ≤ z.length) && z.cps.toList.all lowC) := by
  have e1 : Txt.isascii z = z.cps.toList.all fun c => decide (c < 128) := by rw [Array.all_toList]; rfl
  have e2 : Txt.isalpha z = (decide (1 ≤ z.length) && z.cps.toList.all Unicode.isAlpha) := by rw [Array.all_toList]; rfl
  have e3 : Txt.islower z = (z.cps.toList.any Unicode.isLower && !z.cps.toList.any fun c => Unicode.isUpper c || Unicode.isTitle c) := by rw [Array.any_toList, Array.any_toList]; rfl
  have el : z.length = z.cps.toList.length := rfl
  rw [e1, e2, e3, el]
  generalize z.cps.toList = l
  apply Bool.eq_iff_iff.mpr
  simp only [Bool.and_eq_true, decide_eq_true_eq, List.all_eq_true, Bool.not_eq_true', List.any_eq_true]
  constructor
  · rintro ⟨h1, ⟨h2, h3⟩, _, h5⟩
    refine ⟨h2, fun c hc => ?_⟩
    rw [← lowC_1 c (h1 c hc), h3 c hc, Bool.true_and]
    have := List.any_eq_false.mp h5 c hc
    simpa using this
  · rintro ⟨h1, h2⟩
    have k : ∀ c ∈ l, (Unicode.isAlpha c && !(Unicode.isUpper c || Unicode.isTitle c)) = true := fun c hc => by rw [lowC_1 c (lowC_3 c (h2 c hc))]; exact h2 c hc
    refine ⟨fun c hc => lowC_3 c (h2 c hc), ⟨h1, fun c hc => ?_⟩, ?_, ?_⟩
    · have := k c hc; rw [Bool.and_eq_true] at this; exact this.1
    · cases l with
      | nil => simp at h1
      | cons c r => exact ⟨c, List.mem_cons_self .., lowC_2 c (lowC_3 c (h2 c (List.mem_cons_self ..))) (h2 c (List.mem_cons_self ..))⟩
    · apply List.any_eq_false.mpr
      intro c hc
      have := k c hc; rw [Bool.and_eq_true] at this; simpa using this.2
end My

namespace My
open PySem PySem.Spec PyProof.Rows L2
/-! ### a dict of the top with text keys -/
theorem keyZ_str {e : DictEntry} {x : Str} (h : keyZ e = some x) : ∃ t, e.key = .str x t := by
  unfold keyZ at h
  split at h
  · rename_i y t q
    cases h
    exact ⟨t, q⟩
  · cases h
theorem find_keys (z : Str) : ∀ (l : List DictEntry) (zs : List Str), l.map keyZ = zs.map some → (l.find? (·.key.isStr z)).isSome = decide (z ∈ zs) ∧ l.any (·.refKey) = false
  | [], [], _ => ⟨rfl, rfl⟩
  | [], _ :: _, h => by cases h
  | _ :: _, [], h => by cases h
  | e :: l, x :: zs, h => by
    have h' : keyZ e :: l.map keyZ = some x :: zs.map some := h
    injection h' with h1 h2
    obtain ⟨i1, i2⟩ := find_keys z l zs h2
    obtain ⟨t, q⟩ := keyZ_str h1
    constructor
    · by_cases hx : x = z
      · have b : e.key.isStr z = true := by rw [q]; exact beq_iff_eq.mpr hx
        rw [List.find?_cons_of_pos (p := fun d : DictEntry => d.key.isStr z) b]
        exact (decide_eq_true (by rw [hx]; exact List.mem_cons_self)).symm
      · have b : ¬ e.key.isStr z = true := by rw [q]; exact fun c => hx (beq_iff_eq.mp c)
        rw [List.find?_cons_of_neg (p := fun d : DictEntry => d.key.isStr z) b, i1]
        apply Bool.eq_iff_iff.mpr
        rw [decide_eq_true_eq, decide_eq_true_eq, List.mem_cons]
        exact ⟨.inr, fun c => c.elim (fun c => absurd c.symm hx) id⟩
    · rw [List.any_cons, i2, Bool.or_false]
      unfold DictEntry.refKey
      rw [q]
theorem KSt.ns {w : World} {K : PySem.W.Frag} {a : Addr} {zs : List Str} (h : KSt w K a zs) (z : Str) : ∃ es n, KDict K w a es n ∧ ∃ r, PySem.W.nsIn K a z = some r ∧ r.isSome = decide (z ∈ zs) := by
  obtain ⟨es, n, D, hk⟩ := h.ex
  obtain ⟨f1, f2⟩ := find_keys z es.toList zs hk
  refine ⟨es, n, D, ?_⟩
  unfold PySem.W.nsIn
  rw [D.at_]
  dsimp only
  cases q : es.toList.find? (·.key.isStr z) with
  | none =>
    rw [q] at f1
    exact ⟨none, by rw [f2]; rfl, f1⟩
  | some e =>
    rw [q] at f1
    exact ⟨some e.val, rfl, f1⟩
section
variable {X : Cx} {ρ : Rho} {a a2 b c e o : Expr} {es rest : List Expr} {d d1 d2 : PyData} {ds ds2 : List PyData} {pos apos p p2 p3 pc pt : Pos} {x y : Str} {k m : Bool}
/-- x not in R, x in R: a dict of the top -/
theorem d_notInK {z : Str} {zs : List Str} (hR : ∃ aR, X.mg x = some (.ref aR) ∧ KSt X.w X.K aR zs) (h : ED X ρ a (.str z)) (hg : Gl X x := by rfl) (hd : (x == ("__debug__" : Str)) = false := by decide) : ED X ρ (.Compare a [.NotIn] [.Name x p] pos) (.bool (!decide (z ∈ zs))) := fun S σ H Q sl q => by
  obtain ⟨aR, hm, hK⟩ := hR
  obtain ⟨es, n, D, r, hr, hs⟩ := hK.ns z
  refine e_cmp (op_notIn_kd D) (h S σ H _ sl fun v H1 s1 g1 => ?_) (by first | exact nomark _ | rfl)
  cases g1
  exact e_glob (v := .ref aR) hm rfl ⟨z, r, rfl, rfl, hr, by rw [hs]; exact q _ H1 s1 (.bl _)⟩ hg hd
theorem td_inK {z : Str} {zs : List Str} (hR : ∃ aR, X.mg x = some (.ref aR) ∧ KSt X.w X.K aR zs) (h : ED X ρ a (.str z)) (hg : Gl X x := by rfl) (hd : (x == ("__debug__" : Str)) = false := by decide) : TD X ρ (.Compare a [.In] [.Name x p] pos) (decide (z ∈ zs)) := fun S σ H Q sl q => by
  obtain ⟨aR, hm, hK⟩ := hR
  obtain ⟨es, n, D, r, hr, hs⟩ := hK.ns z
  refine t_cmp (op_in_kd D) (h S σ H _ sl fun v H1 s1 g1 => ?_) (by first | exact nomark _ | rfl)
  cases g1
  exact e_glob (v := .ref aR) hm rfl ⟨z, r, rfl, rfl, hr, _, rfl, by rw [hs]; exact q H1 s1⟩ hg hd
theorem td_notInK {z : Str} {zs : List Str} (hR : ∃ aR, X.mg x = some (.ref aR) ∧ KSt X.w X.K aR zs) (h : ED X ρ a (.str z)) (hg : Gl X x := by rfl) (hd : (x == ("__debug__" : Str)) = false := by decide) : TD X ρ (.Compare a [.NotIn] [.Name x p] pos) (!decide (z ∈ zs)) := fun S σ H Q sl q => by
  obtain ⟨aR, hm, hK⟩ := hR
  obtain ⟨es, n, D, r, hr, hs⟩ := hK.ns z
  refine t_cmp (op_notIn_kd D) (h S σ H _ sl fun v H1 s1 g1 => ?_) (by first | exact nomark _ | rfl)
  cases g1
  exact e_glob (v := .ref aR) hm rfl ⟨z, r, rfl, rfl, hr, _, rfl, by rw [hs]; exact q H1 s1⟩ hg hd
/-! texts: isascii, isalpha, islower; <= -/
theorem d_isascii {z : Str} (h : ED X ρ o (.str z)) (hbase : attributeBase o "isascii" X.env (eval o X.env) = eval o X.env := by rfl) (hline : (apos.endLine == pos.line) = true := by rfl) : ED X ρ (.Call (.Attribute o "isascii" apos) [] [] pos) (.bool (Txt.isascii z)) := fun S σ H Q sl q =>
  e_isascii (h S σ H _ sl fun v H1 s1 g1 => by cases g1; exact ⟨z, rfl, q _ H1 s1 (.bl _)⟩) hbase hline
theorem d_isalpha {z : Str} (h : ED X ρ o (.str z)) (hbase : attributeBase o "isalpha" X.env (eval o X.env) = eval o X.env := by rfl) (hline : (apos.endLine == pos.line) = true := by rfl) : ED X ρ (.Call (.Attribute o "isalpha" apos) [] [] pos) (.bool (Txt.isalpha z)) := fun S σ H Q sl q =>
  e_isalpha (h S σ H _ sl fun v H1 s1 g1 => by cases g1; exact ⟨z, rfl, q _ H1 s1 (.bl _)⟩) hbase hline
theorem d_islower {z : Str} (h : ED X ρ o (.str z)) (hbase : attributeBase o "islower" X.env (eval o X.env) = eval o X.env := by rfl) (hline : (apos.endLine == pos.line) = true := by rfl) : ED X ρ (.Call (.Attribute o "islower" apos) [] [] pos) (.bool (Txt.islower z)) := fun S σ H Q sl q =>
  e_islower (h S σ H _ sl fun v H1 s1 g1 => by cases g1; exact ⟨z, rfl, q _ H1 s1 (.bl _)⟩) hbase hline
theorem o_leS : OpR X (compareOp .LtE) (rP fun d e b => ∃ y z : Str, d = .str y ∧ e = .str z ∧ b = !decide (lt z y)) := fun pins s σ H x y v u Q I rx ry ⟨S, d, e, b, g1, g2, ⟨i, j, e1, e2, e3⟩, q⟩ => by
  subst e1 e2 e3
  cases g1; cases g2
  exact op_le_str pins s σ H _ _ v u Q I rx ry ⟨i, j, rfl, rfl, q⟩
/-- not isinstance(x, str) or len(x) > M -/
theorem wd_strM {M : Str} (G : X.mg "isinstance" = none ∧ X.mg "str" = none ∧ X.mg "len" = none) (hM : ∃ t, X.mg M = some (.int 8 t)) (h : ED X ρ a d) (hB : ED X ρ a2 d) (ok : okS d = true) (hg : Gl X "isinstance" := by rfl) (hgT : Gl X "str" := by rfl) (hgl : Gl X "len" := by rfl) (hgM : Gl X M := by rfl) (hdM : (M == ("__debug__" : Str)) = false := by decide) {q1 q2 q3 q4 q5 q6 q7 q8 : Pos}
    (he : starEach [a, .Name "str" q2] X.env = (false, eval a X.env) :: starEach [.Name "str" q2] X.env := by rfl) (he2 : starEach [a2] X.env = (false, eval a2 X.env) :: starEach [] X.env := by rfl)
    (hi1 : ∀ whole, isTrue (.Call (.Name "isinstance" q1) [a, .Name "str" q2] [] q3) X.env whole = (do let v ← whole; standAt q3; holding [v] (truthy v)) := by intro _; rfl) :
    WD X ρ (.BoolOp .Or [.UnaryOp .Not (.Call (.Name "isinstance" q1) [a, .Name "str" q2] [] q3) q4, .Compare (.Call (.Name "len" q5) [a2] [] q6) [.Gt] [.Name M q7] q8] pos) (!(isStr d && decide ((My.strOf d).length ≤ 8))) := by
  have e : (!(isStr d && decide ((My.strOf d).length ≤ 8))) = (!isStr d || decide ((8 : Int) < ((My.strOf d).length : Int))) := by
    have e1 : decide ((8 : Int) < ((My.strOf d).length : Int)) = !decide ((My.strOf d).length ≤ 8) := by
      apply Bool.eq_iff_iff.mpr
      rw [decide_eq_true_eq, Bool.not_eq_true', decide_eq_false_iff_not]
      omega
    rw [e1]
    cases isStr d <;> rfl
  rw [e]
  refine wd_or (td_not (td_val (d_isStr G.1 G.2.1 h hg hgT he) hi1)) fun ht => wd_or1 ?_
  have hs := nb' ht
  have hz : (My.strOf d).length ≤ sizeLine := str_line (by rw [← isStr_eq hs]; exact ok)
  exact td_cmp o_gt (d_lenS G.2.2 hz (hB.cast (isStr_eq hs)) hgl he2) (d_gint hM hgM hdM) ⟨_, _, rfl, rfl, rfl⟩ (by first | exact nomark _ | rfl)
end
/-! ### ascending, from a text on -/
def ascF : Str → List Str → Bool
  | _, [] => true
  | x, y :: r => !(!decide (lt x y)) && ascF y r
theorem ascF_cons (x : Str) : ∀ zs : List Str, ascF x zs = ascS (x :: zs)
  | [] => rfl
  | y :: r => by
    show (!(!decide (lt x y)) && ascF y r) = (decide (lt x y) && ascS (y :: r))
    rw [Bool.not_not, ascF_cons y r]
theorem empty_lt {z : Str} (h : 1 ≤ z.length) : lt Str.empty z := by
  have hl : 1 ≤ z.cps.toList.length := h
  show ([] : List Nat) < z.cps.toList
  cases e : z.cps.toList with
  | nil => rw [e] at hl; simp at hl
  | cons c r => exact List.nil_lt_cons c r
theorem ascF_empty : ∀ {zs : List Str}, (∀ z ∈ zs, 1 ≤ z.length) → ascF Str.empty zs = ascS zs
  | [], _ => rfl
  | z :: r, h => by
    show (!(!decide (lt Str.empty z)) && ascF z r) = _
    rw [decide_eq_true (empty_lt (h z List.mem_cons_self)), ascF_cons]
    rfl
theorem dic_mk {w : World} {K : PySem.W.Frag} {n : Str} {zs : List Str} {a : Addr} {oc : Value} {od : Option Addr} {es : Array DictEntry} {m : Nat} {osl : Array (Option Value)} (e : PySem.W.nsIn K mainGlobals n = some (some (.ref a))) (l : K.lookup a = some ⟨oc, od, .dict es m, osl⟩)
    (h1 : oc = .type "dict") (h2 : od = none) (h3 : osl = #[]) (hk : PySem.W.KeysLit w.params es.toList) (hl : (a == sysModules) = false) (hz : es.toList.map keyZ = zs.map some) : ∃ a, PySem.W.nsIn K mainGlobals n = some (some (.ref a)) ∧ KSt w K a zs := by
  subst h1 h2 h3
  exact ⟨a, e, ⟨⟨es, m, ⟨l, hk, hl⟩, hz⟩⟩⟩
/-! ### for x in a tuple: if not ..: return False; return True -/
section
variable {X : Cx} {ρ : Rho} {iter c : Expr} {ds : List PyData} {x : Str} {pos pt q1 q2 q3 q4 q5 : Pos} {j1 j2 : Nat}
theorem forD_all {j : Nat} {body : List Stmt} (g : PyData → Bool) (ρ : Rho) : ∀ (ds : List PyData) (ρ1 : Rho), (∀ d, ρ1.set j (some d) = ρ.set j (some d)) →
    (∀ d ∈ ds, g d = true → LD X (ρ.set j (some d)) body (.nx (ρ.set j (some d)))) → (∀ d ∈ ds, g d = false → LD X (ρ.set j (some d)) body (.ret (.bool false))) →
    (ds.all g = true → ∃ ρ2, ForD X j body ds ρ1 (.nx ρ2)) ∧ (ds.all g = false → ForD X j body ds ρ1 (.ret (.bool false)))
  | [], ρ1, _, _, _ => ⟨fun _ => ⟨ρ1, .done⟩, fun e => by cases e⟩
  | d :: ds, ρ1, h0, h1, h2 => by
    obtain ⟨i1, i2⟩ := forD_all g ρ ds (ρ.set j (some d)) (fun e => List.set_set ..) (fun e he => h1 e (List.mem_cons_of_mem _ he)) (fun e he => h2 e (List.mem_cons_of_mem _ he))
    rw [List.all_cons]
    cases hd : g d with
    | true =>
      rw [Bool.true_and]
      have hb := h1 d List.mem_cons_self hd
      rw [← h0 d] at hb
      refine ⟨fun e => ?_, fun e => ?_⟩
      · obtain ⟨ρ2, hf⟩ := i1 e
        rw [← h0 d] at hf
        exact ⟨ρ2, .next hb hf⟩
      · have hf := i2 e
        rw [← h0 d] at hf
        exact .next hb hf
    | false =>
      rw [Bool.false_and]
      have hb := h2 d List.mem_cons_self hd
      rw [← h0 d] at hb
      exact ⟨fun e => (by cases e), fun _ => .ret hb⟩
theorem ld_forAll (j : Nat) (g : PyData → Bool) (h : ED X ρ iter (.tuple ds)) (hb : ∀ d ∈ ds, TD X (ρ.set j (some d)) c (!g d)) (hg : PG X (.Name x pt) (gName j)) (hp : PassesOwn (model X.prog X.w) X.A X.env X.xe) (hc : X.calm = true := by rfl)
    (hs : ∀ x, foldedSetIterable iter X.env x = pure x := by intro _; rfl) :
    LD X ρ [.For (.Name x pt) iter [.If c [.Return (some (.Constant (.bool false) j1 q1)) q2] [] q3] [] pos, .Return (some (.Constant (.bool true) j2 q4)) q5] (.ret (.bool (ds.all g))) := by
  have step := forD_all (X := X) (j := j) (body := [.If c [.Return (some (.Constant (.bool false) j1 q1)) q2] [] q3]) g ρ ds ρ (fun _ => rfl) (fun d hd e => ?_) (fun d hd e => ?_)
  · cases hall : ds.all g with
    | false => exact ld_end (sd_forT j h (step.2 hall) hg hp hc hs)
    | true =>
      obtain ⟨ρ2, hf⟩ := step.1 hall
      exact ld_cons (sd_forT j h hf hg hp hc hs) (ld_end (sd_ret (d_bl true)))
  · have hb' := hb d hd
    rw [e] at hb'
    exact ld_cons (sd_if (k := false) hb' (fun e => by cases e) fun _ => ld_nil) ld_nil
  · have hb' := hb d hd
    rw [e] at hb'
    exact ld_end (sd_if (k := true) hb' (fun _ => ld_end (sd_ret (d_bl false))) fun e => by cases e)
end
end My

namespace HT
open PySem PySem.Spec PyProof.Rows
section
variable {prog : Program} {w : World} {A : Around} {E : Value → Shared → Prop} {s : Shared}
theorem sliceApplied_rev {sl : Addr} {vl vu vs : Value} {n : Nat} {Q : Int × Int × Nat → Shared → Prop} (hs : s.heap.IsSliceOf sl vl vu vs) (pl : IsPart vl none) (pu : IsPart vu none) (ps : IsPart vs (some (-1)))
    (h : Q ((n : Int) - 1, -1, n) s) : wpAny (model prog w) A (Builtin.Slice.sliceApplied (.ref sl) (pure (n : Int))) Q E s := by
  obtain ⟨os, hos, hcs, hds⟩ := id hs
  unfold Builtin.Slice.sliceApplied Builtin.Slice.sliceFields
  refine wpAny_bind (wpAny_bind (wpAny_field hos hds (x := vl) rfl (wpAny_bind (wpAny_field hos hds (x := vu) rfl (wpAny_bind (wpAny_field hos hds (x := vs) rfl (wpAny_pure ?_)))))))
  refine wpAny_bind (slicePart_ ps ?_)
  show wpAny _ _ (if ((-1 : Int) == 0) = true then _ else _) _ _ s
  rw [if_neg (by decide)]
  refine wpAny_bind (slicePart_ pl (wpAny_bind (slicePart_ pu (wpAny_bind (wpAny_pure ?_)))))
  show wpAny _ _ (match Builtin.Slice.sliceAdjust none none (-1) (n : Int) with | (lo, hi) => pure (lo, (-1 : Int), Builtin.Slice.slicePlaces lo hi (-1))) _ _ s
  have e1 : Builtin.Slice.sliceAdjust none none (-1) (n : Int) = ((n : Int) - 1, -1) := rfl
  rw [e1]
  show wpAny _ _ (pure (((n : Int) - 1), (-1 : Int), Builtin.Slice.slicePlaces ((n : Int) - 1) (-1) (-1))) _ _ s
  have e2 : Builtin.Slice.slicePlaces ((n : Int) - 1) (-1) (-1) = n := by
    unfold Builtin.Slice.slicePlaces
    rw [if_neg (by decide)]
    by_cases h : (n : Int) - 1 > -1
    · rw [if_pos h, show (- -1 : Int) = 1 by decide, Int.ediv_one]; omega
    · rw [if_neg h]; omega
  rw [e2]
  exact wpAny_pure h
theorem pick_rev (xs : Array Value) : ((List.range xs.size).filterMap fun (k : Nat) => xs[(((xs.size : Int) - 1) + (k : Int) * (-1)).toNat]?).toArray = xs.toList.reverse.toArray := by
  have h := PySem.W.krv_pick xs
  unfold slicePick at h
  rw [PySem.W.krv_bounds] at h
  rw [← h]
  show _ = ((sliceRange ((xs.size : Int) - 1) (-1) (-1)).filterMap (xs[·]?)).toArray
  rw [PySem.W.krv_sliceRange, List.filterMap_map]
  congr 2
  funext k
  show xs[(((xs.size : Int) - 1) + (k : Int) * (-1)).toNat]? = xs[xs.size - 1 - k]?
  congr 1
  omega
theorem getItem_tuple_rev {t sl : Addr} {items : Array Value} {vl vu vs : Value} {Q : Value → Shared → Prop} (ht : IsTup s.heap t items) (hs : s.heap.IsSliceOf sl vl vu vs) (pl : IsPart vl none) (pu : IsPart vu none) (ps : IsPart vs (some (-1)))
    (h : Q (.ref s.heap.objs.size) { s with heap := s.heap.push { cls := .type "tuple", data := .seq items.toList.reverse.toArray } })
    (hsz : items.size ≤ sizeLine) : wpAny (model prog w) A (getItem (.ref t) (.ref sl)) Q E s := by
  have htake : sizeOk (.seq items.toList.reverse.toArray) := by
    show items.toList.reverse.toArray.size ≤ sizeLine
    rw [List.size_toArray, List.length_reverse, Array.length_toList]
    omega
  obtain ⟨os, hos, hcs, hds⟩ := id hs
  have hTs : s.TypeIs (.ref sl) "slice" := ⟨os, hos, hcs⟩
  unfold getItem
  try with_reducible refine wpAny_holding ?_
  first | refine wpAny_bind (wpAny_pure ?_) | skip
  refine wpAny_bind (wpAny_sequenceKey ht.typeIs (by decide) ?_)
  refine wpAny_bind (wpAny_callSpecial?_slot (name := Str.ofString "__getitem__") ht.typeIs PyProof.Rows.slot_tuple_getitem
    (wpAny_call_entry PyProof.Rows.slot_tuple_getitem ht.typeIs entry_tuple_getitem ?_ (args_tuple_getitem _ _)))
  show wpAny _ _ (Builtin.Tuple.tupleItemsOf (.ref t) >>= _) _ _ s
  refine wpAny_bind (tupleItemsOf_ ht ?_)
  refine wpAny_bind (wpAny_typeOf hTs ?_)
  rw [if_pos (by decide)]
  refine wpAny_bind (sliceApplied_rev hs pl pu ps ?_)
  have hno : ¬ ((((items.size : Int) - 1) == 0 && (-1 : Int) == 1 && items.size == items.size) = true) := by
    intro q
    rw [Bool.and_eq_true, Bool.and_eq_true] at q
    exact absurd q.1.2 (by decide)
  show wpAny _ _ (if (((items.size : Int) - 1) == 0 && (-1 : Int) == 1 && items.size == items.size) = true then _ else _) _ _ s
  rw [if_neg hno, pick_rev]
  first
    | exact wpAny_bind (m := Builtin.Tuple.tupleExact _) (wpAny_newObj_type (wpAny_pure ⟨_, rfl, wpAny_pure h⟩) htake)
    | exact wpAny_bind (m := Builtin.Tuple.tupleExact _) (wpAny_newObj_type (wpAny_bind (wpAny_pure (wpAny_pure ⟨_, rfl, wpAny_pure h⟩))) htake)
    | exact wpAny_bind (wpAny_bind (m := Builtin.Tuple.tupleExact _) (wpAny_newObj_type (wpAny_pure (wpAny_pure ⟨_, rfl, wpAny_pure h⟩)) htake))
    | exact wpAny_bind (wpAny_bind (m := Builtin.Tuple.tupleExact _) (wpAny_newObj_type (wpAny_pure ⟨_, rfl, wpAny_pure h⟩) htake))
end
end HT
namespace My
open PySem PySem.Spec PyProof.Rows L2 HT
section
variable {X : Cx}
def tRevT (K : PySem.W.Frag) (te : TE) : TE := fun σ H Q => te σ H fun x H1 => ∃ a xs, x = .ref a ∧ SqT K H1 a xs ∧ ∀ p, H1 p = none → Q (.ref p) (upd H1 p (.tup xs.reverse))
theorem pe_revT {e : Expr} {te : TE} {k : Nat} {p1 p2 p3 pos : Pos} (he : PE X e te) : PE X (.Subscript e (.Slice none none (some (.UnaryOp .USub (.Constant (.int 1) k p1) p2)) p3) pos) (tRevT X.K te) := by
  refine ⟨fun pins s σ H Q I h => ?_⟩
  refine Subscript_ (thn (he.run pins s σ H _ I h) fun v s1 ⟨x, H1, I1, r1, q1⟩ => ?_)
  obtain ⟨a, xs, ex, hx, q⟩ := q1
  subst ex
  cases r1
  have hst : PO X (some (.UnaryOp .USub (.Constant (.int 1) k p1) p2)) (tPart (tUn (rU fun i => .int (-i)) (tC (.int 1)))) := po_some (pe_un un_neg pe_int)
  refine wpAny_Slice (thn (po_none.run pins s1 σ H1 (fun o H2 => o = none ∧ H2 = H1) I1 ⟨rfl, rfl⟩) fun vl s2 ⟨l, H2, I2, pl, el, e2⟩ => ?_)
  subst el e2
  refine thn (po_none.run pins s2 σ H2 (fun o H3 => o = none ∧ H3 = H2) I2 ⟨rfl, rfl⟩) fun vu s3 ⟨u, H3, I3, pu, eu, e3⟩ => ?_
  subst eu e3
  refine thn (hst.run pins s3 σ H3 (fun o H4 => o = some (-1) ∧ H4 = H3) I3 ⟨1, rfl, -1, rfl, rfl, rfl⟩) fun vs s4 ⟨o, H4, I4, ps, eo, e4⟩ => ?_
  subst eo e4
  have I5 : Inv X pins σ H4 { s4 with heap := s4.heap.push { cls := .type "slice", data := .fields #[vl, vu, vs] } } := I4.kept (t' := s4.toks) fun b ob q => Heap.get?_push_of_some _ q
  obtain ⟨its, r, ht, hz⟩ := I5.tuple hx
  have hlen := r.length
  show wpAny (model X.prog X.w) X.A (subscriptTail e (.Slice none none (some (.UnaryOp .USub (.Constant (.int 1) k p1) p2)) p3) (.ref a) (.ref s4.heap.objs.size)) (EP X pins σ Q) X.xe { s4 with heap := s4.heap.push { cls := .type "slice", data := .fields #[vl, vu, vs] } }
  refine tail_any (ops := [.ref a, .ref s4.heap.objs.size]) ht.typeIs (PyProof.Rows.slot_tuple_getitem.lookup) ?_ (by with_unfolding_all rfl)
  refine getItem_tuple_rev ht (Heap.IsSliceOf.new _ vl vu vs) pl pu ps ?_ (by rw [List.size_toArray]; omega)
  refine ⟨.ref _, _, I5.laid (t' := s4.toks) (o := .tup xs.reverse) (fun b ob q => Heap.get?_push_of_some _ q) (Nat.le_refl _) ?_, rfl, q _ (I5.hok.fresh (Nat.le_refl _))⟩
  exact ⟨by rw [List.length_reverse]; exact hz, _, r.reverse, IsTup.new _ _⟩
end
section
variable {X : Cx} {ρ : Rho} {a b c e lo hi : Expr} {d d1 d2 : PyData} {ds ds2 : List PyData} {pos p p1 p2 p3 : Pos}
theorem DGs.rev {S : Addr → Prop} {H : Hp} : ∀ {vs : List V} {ds : List PyData}, DGs S H vs ds → DGs S H vs.reverse ds.reverse
  | _, _, .nil => .nil
  | _, _, .cons h hs => by rw [List.reverse_cons, List.reverse_cons]; exact hs.rev.append (.cons h .nil)
/-- t[::-1] -/
theorem d_revT {k : Nat} (h : ED X ρ e (.tuple ds)) : ED X ρ (.Subscript e (.Slice none none (some (.UnaryOp .USub (.Constant (.int 1) k p1) p2)) p3) pos) (.tuple ds.reverse) := fun S σ H Q sl q =>
  toE (pe_revT pE) (h S σ H _ sl fun v H1 s1 g1 => by
    obtain ⟨a, xs, rfl, ha, hs, sq⟩ := g1.seq (K := X.K)
    exact ⟨a, xs, rfl, sq, fun p hp => q _ _ (s1.trans (same_new hp)) (.tup upd_same (hs.rev.same (same_new hp)))⟩)
/-- t + u -/
theorem d_catT (h : ED X ρ a (.tuple ds)) (h2 : ED X ρ b (.tuple ds2)) (l : ds.length + ds2.length ≤ 10000000) : ED X ρ (.BinOp a .Add b pos) (.tuple (ds ++ ds2)) := fun S σ H Q sl q =>
  e_op op_catA (h S σ H _ sl fun v H1 s1 g1 => h2 S σ H1 _ (sl.same s1) fun u H2 s2 g2 => by
    obtain ⟨a, xs, rfl, ha, hs, sq⟩ := (g1.same s2).seq (K := X.K)
    obtain ⟨b, ys, rfl, hb, ks, tq⟩ := g2.seq (K := X.K)
    have l1 := hs.length
    have l2 := ks.length
    refine ⟨a, b, xs, ys, rfl, rfl, sq, tq, Nat.le_trans (show xs.length + ys.length ≤ 10000000 by omega) (by decide), fun e => ?_, fun _ e => ?_, fun _ _ p hp => ?_⟩
    · subst e
      cases hs
      exact q _ _ (s1.trans s2) (.tup hb ks)
    · subst e
      cases ks
      rw [List.append_nil] at q
      exact q _ _ (s1.trans s2) (.tup ha hs)
    · exact q _ _ ((s1.trans s2).trans (same_new hp)) (.tup upd_same ((hs.append ks).same (same_new hp))))
end
end My

namespace L2
open PySem PySem.Spec PyProof.Rows
theorem tuple_mulW1 (l : Addr) (items : Array Value) (n : Nat) (dd : Option Addr) (sl : Array (Option Value)) (u : Tok) :
    Meets (Builtin.«tuple.__mul__» ⟨[.ref l, .int 1 u], []⟩) (fun _ R s => s.heap.get? l = some { cls := .type "tuple", dict := dd, data := .seq items n, slots := sl } ∧ R (.ok (.ret (Value.ref l))) s) :=
  .of_wp fun prog w A R s h => by
    obtain ⟨hp, g, d, tk, os⟩ := s
    obtain ⟨hl, h⟩ := h
    have f1 := AutoSeq1.idx_int
    wp_walk using wpAny_loadPart' hl
    repeat (first
      | (refine wpAny_ite_false (decide_eq_false (by decide)) ?_; wp_walk using wpAny_loadPart' hl)
      | (refine wpAny_ite_true (decide_eq_true (by simp)) ?_; wp_walk using wpAny_loadPart' hl))
    exact ⟨_, rfl, h⟩
theorem tuple_mulW0 (l : Addr) (items : Array Value) (n : Nat) (dd : Option Addr) (sl : Array (Option Value)) (u : Tok) (c1 : (items.isEmpty || (0 : Int) == 1) = false) :
    Meets (Builtin.«tuple.__mul__» ⟨[.ref l, .int 0 u], []⟩) (fun _ R s => s.heap.get? l = some { cls := .type "tuple", dict := dd, data := .seq items n, slots := sl } ∧
      R (.ok (.ret (Value.ref s.heap.objs.size))) { s with heap := s.heap.push { cls := Value.type "tuple", data := Data.seq #[] }, toks := s.toks }) :=
  .of_wp fun prog w A R s h => by
    obtain ⟨hp, g, d, tk, os⟩ := s
    obtain ⟨hl, h⟩ := h
    have f1 := AutoSeq1.idx_int
    wp_walk using wpAny_loadPart' hl
    repeat (first
      | (refine wpAny_ite_false (decide_eq_false (by rw [c1]; exact Bool.false_ne_true)) ?_; wp_walk using wpAny_loadPart' hl)
      | (refine wpAny_ite_false (decide_eq_false (by decide)) ?_; wp_walk using wpAny_loadPart' hl)
      | (refine wpAny_ite_true (decide_eq_true (by simp)) ?_; wp_walk using wpAny_loadPart' hl)
      | (refine wpAny_ite_false (decide_eq_false (Nat.not_lt.mpr (Nat.zero_le _))) ?_; wp_walk using wpAny_loadPart' hl))
    exact ⟨_, rfl, h⟩
theorem rep_size {α : Type} (a : Array α) : ∀ (m : Nat) (b : Array α), ((List.replicate m a).foldl (fun x1 x2 => x1 ++ x2) b).size = b.size + m * a.size
  | 0, b => by simp
  | m + 1, b => by
    rw [List.replicate_succ, List.foldl_cons, rep_size a m (b ++ a), Array.size_append, Nat.succ_mul]
    omega
section
variable {X : Cx}
/-- t * 1 is t itself; t * 0 is () -/
theorem op_rep01 : OpR X (binaryOp .Mult) (fun x y H Q => ∃ l k xs, x = .ref l ∧ y = .int k ∧ SqT X.K H l xs ∧ xs ≠ [] ∧ ((k = 1 ∧ Q (.ref l) H) ∨ (k = 0 ∧ ∀ p, H p = none → Q (.ref p) (upd H p (.tup []))))) := by
  intro pins s σ H x y v u Q I rx ry h
  obtain ⟨l, k, xs, rfl, rfl, hT, hne, q⟩ := h
  cases rx
  obtain ⟨t, rfl⟩ := ry
  obtain ⟨its, r, ⟨⟨cls, dd, data, sl⟩, ho, hc, n, hd⟩, hs⟩ := I.tuple hT
  simp only at hc hd
  subst hc hd
  rcases q with ⟨rfl, q⟩ | ⟨rfl, q⟩
  · exact wpAny_binaryOp_repeat_ref (T := "tuple") (U := "int") (by decide) ⟨_, ho, rfl⟩ (fun s' => typeIs_int s' 1 t) noFill_tuple_mul F.fills_int_mul F.slot_int_rmul repeat_tuple F.slot_int_index.lookup
      (call_meets F.slot_int_rmul (typeIs_int s 1 t) F.entry_int_rmul (F.args_int_rmul_2 _ _) (int_rmul_tuple 1 t l its.toArray n dd sl)
        ⟨ho, rfl, ⟨_, ho, rfl⟩, call_meets F.slot_tuple_mul ⟨_, ho, rfl⟩ F.entry_tuple_mul (F.args_tuple_mul_2 _ _) (tuple_mulW1 l its.toArray n dd sl t) ⟨ho, ⟨.ref l, H, I, rfl, q⟩⟩⟩)
  · have hn : its ≠ [] := fun e => hne (by
      have hle : its.length = xs.length := r.length.symm
      rw [e] at hle
      exact List.eq_nil_of_length_eq_zero hle.symm)
    have hi : its.toArray.isEmpty = false := by
      cases its with
      | nil => exact absurd rfl hn
      | cons a b => rfl
    refine wpAny_binaryOp_repeat_ref (T := "tuple") (U := "int") (by decide) ⟨_, ho, rfl⟩ (fun s' => typeIs_int s' 0 t) noFill_tuple_mul F.fills_int_mul F.slot_int_rmul repeat_tuple F.slot_int_index.lookup
      (call_meets F.slot_int_rmul (typeIs_int s 0 t) F.entry_int_rmul (F.args_int_rmul_2 _ _) (int_rmul_tuple 0 t l its.toArray n dd sl)
        ⟨ho, rfl, ⟨_, ho, rfl⟩, call_meets F.slot_tuple_mul ⟨_, ho, rfl⟩ F.entry_tuple_mul (F.args_tuple_mul_2 _ _) (tuple_mulW0 l its.toArray n dd sl t (by rw [hi]; rfl)) ⟨ho, ?_⟩⟩)
    refine ⟨.ref s.heap.objs.size, _, I.laid (t' := s.toks) (o := .tup []) (fun b ob q => Heap.get?_push_of_some _ q) (Nat.le_refl _) ?_, rfl, q _ (I.hok.fresh (Nat.le_refl _))⟩
    exact ⟨Nat.zero_le _, [], .nil, IsTup.new _ _⟩
/-- text * int -/
theorem op_mulS : OpR X (binaryOp .Mult) (fun x y H Q => ∃ z k, x = .str z ∧ y = .int k ∧ 2 ≤ k ∧ k ≤ 1000 ∧ 1 ≤ z.length ∧ z.length ≤ 1000 ∧ Q (.str ⟨(List.replicate k.toNat z.cps).foldl (· ++ ·) #[]⟩) H) := by
  intro pins s σ H x y v u Q I rx ry h
  obtain ⟨z, k, rfl, rfl, h1, h2, h3, h4, q⟩ := h
  obtain ⟨t, rfl⟩ := rx
  obtain ⟨t', rfl⟩ := ry
  have hno : (k == 1 || z.length == 0) = false := by
    rw [beq_eq_false_iff_ne.mpr (show k ≠ 1 by omega), beq_eq_false_iff_ne.mpr (show z.length ≠ 0 by omega)]; rfl
  refine P.mul_str ?_ (fun _ _ => ?_) (fun _ _ => ?_) ?_
  · rw [decide_eq_false (by omega), decide_eq_false (by omega)]; rfl
  · have : (1000 : Int) ≤ (2 ^ 63 - 1) / k := by
      refine Int.le_ediv_of_mul_le (by omega) ?_
      omega
    omega
  · refine decide_eq_false ?_
    rw [sizeLine_eq]
    have : z.length * k.toNat ≤ 1000 * 1000 := Nat.mul_le_mul h4 (by omega)
    omega
  · rw [if_neg (by omega), hno, if_neg (by decide)]
    refine ⟨?_, ⟨.str _, H, I.tok _, ⟨_, rfl⟩, q⟩⟩
    show ((List.replicate k.toNat z.cps).foldl (fun x1 x2 => x1 ++ x2) #[]).size ≤ sizeLine
    rw [rep_size, sizeLine_eq]
    have : k.toNat * z.cps.size ≤ 1000 * 1000 := Nat.mul_le_mul (by omega) h4
    show #[].size + _ ≤ _
    simp only [List.size_toArray, List.length_nil]
    omega
end
end L2
namespace My
open PySem PySem.Spec PyProof.Rows L2
def repS (z : Str) (k : Nat) : Str := ⟨(List.replicate k z.cps).foldl (· ++ ·) #[]⟩
theorem DGs.flat {S : Addr → Prop} {H : Hp} {xs : List V} {ds : List PyData} (h : DGs S H xs ds) : ∀ k, DGs S H (List.replicate k xs).flatten (List.replicate k ds).flatten
  | 0 => .nil
  | k + 1 => by rw [List.replicate_succ, List.replicate_succ, List.flatten_cons, List.flatten_cons]; exact h.append (h.flat k)
section
variable {X : Cx} {ρ : Rho} {a b e : Expr} {ds : List PyData} {pos : Pos} {k : Nat}
/-- t * k -/
theorem d_mulT (h : ED X ρ a (.tuple ds)) (hb : ED X ρ b (.int (k : Int))) (h0 : 0 < ds.length) (h1 : ds.length ≤ 1000) (h2 : k ≤ 1000) : ED X ρ (.BinOp a .Mult b pos) (.tuple (List.replicate k ds).flatten) := fun S σ H Q sl q => by
  by_cases hk : 2 ≤ k
  · refine e_op op_repT (h S σ H _ sl fun v H1 s1 g1 => hb S σ H1 _ (sl.same s1) fun u H2 s2 g2 => ?_)
    cases g2
    obtain ⟨a, xs, rfl, ha, hs, sq⟩ := (g1.same s2).seq (K := X.K)
    have lx := hs.length
    exact ⟨a, _, xs, rfl, rfl, sq, fun e => by rw [e] at lx; simp at lx; omega, by omega, by omega, by omega, fun p hp => q _ _ ((s1.trans s2).trans (same_new hp)) (.tup upd_same ((hs.flat k).same (same_new hp)))⟩
  · refine e_op op_rep01 (h S σ H _ sl fun v H1 s1 g1 => hb S σ H1 _ (sl.same s1) fun u H2 s2 g2 => ?_)
    cases g2
    obtain ⟨a, xs, rfl, ha, hs, sq⟩ := (g1.same s2).seq (K := X.K)
    have lx := hs.length
    refine ⟨a, _, xs, rfl, rfl, sq, fun e => by rw [e] at lx; simp at lx; omega, ?_⟩
    by_cases k1 : k = 1
    · subst k1
      refine .inl ⟨rfl, q _ _ (s1.trans s2) ?_⟩
      show DG S H2 (.ref a) (.tuple (ds ++ []))
      rw [List.append_nil]
      exact .tup ha hs
    · have k0 : k = 0 := by omega
      subst k0
      exact .inr ⟨rfl, fun p hp => q _ _ ((s1.trans s2).trans (same_new hp)) (.tup upd_same .nil)⟩
/-- text * k -/
theorem d_mulS {z : Str} (h : ED X ρ a (.str z)) (hb : ED X ρ b (.int (k : Int))) (h0 : 1 ≤ z.length) (h1 : z.length ≤ 1000) (h2 : 2 ≤ k) (h3 : k ≤ 1000) : ED X ρ (.BinOp a .Mult b pos) (.str (repS z k)) := fun S σ H Q sl q =>
  e_op op_mulS (h S σ H _ sl fun v H1 s1 g1 => hb S σ H1 _ (sl.same s1) fun u H2 s2 g2 => by
    cases g1; cases g2
    exact ⟨z, _, rfl, rfl, by omega, by omega, h0, h1, q _ _ (s1.trans s2) (.str _)⟩)
/-- text[i] -/
theorem d_ixS {z : Str} {i c : Nat} (h : ED X ρ a (.str z)) (hb : ED X ρ b (.int (i : Int))) (hz : z.length ≤ 1000) (hi : z.cps.toList[i]? = some c) (hs : PlainIx b := by exact fun _ _ => rfl) : ED X ρ (.Subscript a b pos) (.str ⟨#[c]⟩) := fun S σ H Q sl q =>
  e_ixS (h S σ H _ sl fun v H1 s1 g1 => hb S σ H1 _ (sl.same s1) fun u H2 s2 g2 => by
    cases g1; cases g2
    exact ⟨z, _, c, rfl, rfl, Nat.le_trans hz (by decide), atI_nat hi, q _ _ (s1.trans s2) (.str _)⟩) hs
end
end My

namespace My
open PySem PySem.Spec PyProof.Rows L2
/-! ### a block that gathers data in one list -/
abbrev SpF (p : Addr) : Addr → Prop := fun a => a = p
structure Ap (F : Addr) (ok : PyData → Prop) (ρ : Rho) (n : Nat) (σ : L2.St) (H : Hp) : Prop where
  sl : SL (SpF F) H σ ρ
  at0 : σ[0]? = some (some (.ref F))
  lst : ∃ xs ds, H F = some (.lst xs) ∧ DGs (SpF F) H xs ds ∧ ds.length ≤ n ∧ ∀ d ∈ ds, ok d
def SE (X : Cx) (F : Addr) (ok : PyData → Prop) (st : Stmt) (ρ : Rho) (n : Nat) (ρ' : Rho) (n' : Nat) : Prop := ∀ (σ : L2.St) (H : Hp) (D : Ends), Ap F ok ρ n σ H → (∀ σ' H', But F H H' → Ap F ok ρ' n' σ' H' → D.nx σ' H') → WS X st D σ H
def LE (X : Cx) (F : Addr) (ok : PyData → Prop) (l : List Stmt) (ρ : Rho) (n : Nat) (ρ' : Rho) (n' : Nat) : Prop := ∀ (σ : L2.St) (H : Hp) (D : Ends), Ap F ok ρ n σ H → (∀ σ' H', But F H H' → Ap F ok ρ' n' σ' H' → D.nx σ' H') → WL X l D σ H
theorem SL.keep {S : Addr → Prop} {H H' : Hp} {σ : L2.St} {ρ : Rho} (h : SL S H σ ρ) (ht : Tup H H') (k : ∀ a o, ¬ S a → H a = some o → H' a = some o) (hd : ∀ a, S a → H' a ≠ none) : SL S H' σ ρ :=
  ⟨hd, fun i d q => let ⟨v, a, b⟩ := h.look i d q; ⟨v, a, b.mono ht fun a o n e => ⟨n, k a o n e⟩⟩, h.len⟩
section
variable {X : Cx} {F : Addr} {ok : PyData → Prop} {ρ ρ1 ρ2 : Rho} {n n1 n2 : Nat} {e : Expr} {d : PyData} {st : Stmt} {l : List Stmt} {ds : List PyData} {pos pos' apos p pt : Pos} {x : Str}
theorem le_nil : LE X F ok [] ρ n ρ n := fun σ H D I q => l_nil (q σ H (fun _ _ _ e => e) I)
theorem le_cons (h : SE X F ok st ρ n ρ1 n1) (hs : LE X F ok l ρ1 n1 ρ2 n2) : LE X F ok (st :: l) ρ n ρ2 n2 := fun σ H D I q =>
  l_cons (h σ H _ I fun σ1 H1 b1 I1 => hs σ1 H1 _ I1 fun σ2 H2 b2 I2 => q σ2 H2 (b1.trans b2) I2)
theorem se_set (i : Nat) (h : ED X ρ e d) (hN : X.N.Nodup) (h0 : i ≠ 0) (hi : X.N[i]? = some x := by rfl) (hx : Loc X.env.scope x := by first | exact Or.inl rfl | exact Or.inr rfl)
    (hs : swapsWith e (some (.Name x pos')) pos.line X.env = pure false := by rfl) (hf : X.fn x = true ∨ X.env.scope.names.lookup x = some .local := by first | exact .inl rfl | exact .inr rfl | assumption) :
    SE X F ok (.Assign [.Name x pos'] e pos) ρ n (ρ.set i (some d)) n := fun σ H D I q =>
  s_set i (h _ σ H _ I.sl fun v H1 s1 g1 => by
    obtain ⟨xs, ds, a, b, c, k⟩ := I.lst
    exact q _ H1 (But.of s1) ⟨(I.sl.same s1).set g1, by rw [List.getElem?_set_ne h0]; exact I.at0, xs, ds, s1 _ _ a, b.same s1, c, k⟩) hN hi hx hs hf
theorem se_app (h : ED X ρ e d) (hd : ok d) (hn : n ≤ 1000) (hi : X.N[0]? = some x := by rfl) (hv : Vis X.env.scope x := by first | exact Or.inl rfl | exact Or.inr (Or.inl rfl) | exact Or.inr (Or.inr rfl))
    (hbase : attributeBase (.Name x p) "append" X.env (eval (.Name x p) X.env) = eval (.Name x p) X.env := by rfl)
    (hfew : ((backTo pos (starEach [e] X.env)).all (fun x => !x.1) && (backToKw pos (keywordEach [] X.env)).all (fun x => x.1.isSome) && decide ([e].length + ([] : List Keyword).length + (if ([] : List Keyword).isEmpty then 0 else 1) < 30)) = true := by rfl)
    (hline : (apos.endLine == pos.line) = true := by rfl) (hs : starEach [e] X.env = (false, eval e X.env) :: starEach [] X.env := by rfl) (hplain : (backTo pos (starEach [] X.env)).any (·.1) = false := by rfl)
    (hsw : swapsWith (.Call (.Attribute (.Name x p) "append" apos) [e] [] pos) none pos'.line X.env = pure false := by rfl)
    (hd1 : (x == ("__debug__" : Str)) = false := by decide) (hcd : (x == ("__classdict__" : Str)) = false := by decide) :
    SE X F ok (.Expr (.Call (.Attribute (.Name x p) "append" apos) [e] [] pos) pos') ρ n ρ (n + 1) := fun σ H D I q => by
  obtain ⟨xs, ds, a, b, c, k⟩ := I.lst
  have lx := b.length
  refine s_app (e_var 0 I.at0 ⟨⟨F, xs, rfl, .inl (.inl a)⟩, h _ σ H _ I.sl fun v H1 s1 g1 => ⟨F, xs, rfl, s1 _ _ a, Nat.lt_of_lt_of_le (show xs.length < 10000 by omega) (by decide), ?_⟩⟩ hi hv hd1 hcd) hbase hfew hline hs hplain hsw
  have a1 := s1 _ _ a
  have up : ∀ {v : V} {d : PyData}, DG (SpF F) H1 v d → DG (SpF F) (upd H1 F (.lst (xs ++ [v]))) v d := fun g => g.mono (Tup.set a1) fun b o nb e => ⟨nb, by rw [upd_ne nb]; exact e⟩
  refine q σ _ (fun b o nb e => by rw [upd_ne nb]; exact s1 _ _ e) ⟨(I.sl.same s1).keep (Tup.set a1) (fun b o nb e => by rw [upd_ne nb]; exact e) (fun b e => by rw [show b = F from e, upd_same]; exact fun z => by cases z), I.at0, xs ++ [v], ds ++ [d], upd_same, ?_, ?_, ?_⟩
  · exact ((b.same s1).append (.cons g1 .nil)).mono (Tup.set a1) fun b o nb e => ⟨nb, by rw [upd_ne nb]; exact e⟩
  · rw [List.length_append]; exact Nat.succ_le_succ c
  · intro y hy
    rcases List.mem_append.mp hy with hy | hy
    · exact k y hy
    · rw [List.mem_singleton.mp hy]; exact hd
inductive ForE (X : Cx) (F : Addr) (ok : PyData → Prop) (j : Nat) (body : List Stmt) : List PyData → Rho → Nat → Rho → Nat → Prop
  | done {ρ : Rho} {n : Nat} : ForE X F ok j body [] ρ n ρ n
  | next {ρ ρ1 ρ2 : Rho} {n n1 n2 : Nat} {d : PyData} {ds : List PyData} (h : LE X F ok body (ρ.set j (some d)) n ρ1 n1) (r : ForE X F ok j body ds ρ1 n1 ρ2 n2) : ForE X F ok j body (d :: ds) ρ n ρ2 n2
theorem se_for {iter : Expr} {body : List Stmt} (j : Nat) (h : ED X ρ iter (.tuple ds)) (hf : ForE X F ok j body ds ρ n ρ2 n2) (hj : j ≠ 0) (hg : PG X (.Name x pt) (gName j)) (hp : PassesOwn (model X.prog X.w) X.A X.env X.xe) (hc : X.calm = true := by rfl)
    (hs : ∀ x, foldedSetIterable iter X.env x = pure x := by intro _; rfl) : SE X F ok (.For (.Name x pt) iter body [] pos) ρ n ρ2 n2 := fun σ H D I q => by
  refine s_for (pi_tup pE) hg (h _ σ H _ I.sl fun v H1 s1 g1 => ?_) hp hc hs
  obtain ⟨a, xs, rfl, ha, hds, sq⟩ := g1.seq (K := X.K)
  have I1 : Ap F ok ρ n σ H1 := by
    obtain ⟨ys, es, a, b, c, k⟩ := I.lst
    exact ⟨I.sl.same s1, I.at0, ys, es, s1 _ _ a, b.same s1, c, k⟩
  have tupF : ∀ {H' : Hp}, But F H1 H' → Tup H1 H' := fun b => by
    obtain ⟨ys, es, a, _⟩ := I1.lst
    exact b.tups a
  refine ⟨a, rfl, ⟨xs, sq⟩, for_tup (xs := xs) (fun i σ' H' => ∃ ρ' n', But F H1 H' ∧ Ap F ok ρ' n' σ' H' ∧ ForE X F ok j body (ds.drop i) ρ' n' ρ2 n2) ⟨ρ, n, fun _ _ _ e => e, I1, hf⟩ (fun i σ' H' _ ⟨_, _, b2, _⟩ => .inl (.inl (tupF b2 _ _ ha))) ?_ ?_⟩
  · rintro i y σ' H' hi ⟨ρ', n', b2, I2, fd⟩
    obtain ⟨d, hd, hy⟩ := hds.get hi
    have lt : i < ds.length := (List.getElem?_eq_some_iff.mp hd).1
    have e : ds.drop i = d :: ds.drop (i + 1) := by
      rw [List.drop_eq_getElem_cons lt]
      rw [List.getElem?_eq_getElem lt] at hd
      rw [Option.some.inj hd]
    rw [e] at fd
    have hy2 := hy.mono (T := SpF F) (tupF b2) fun a o nb e => ⟨nb, b2 a o nb e⟩
    have I3 : Ap F ok (ρ'.set j (some d)) n' (σ'.set j (some y)) H' := ⟨I2.sl.set hy2, by rw [List.getElem?_set_ne hj]; exact I2.at0, I2.lst⟩
    cases fd with
    | next hb r => exact hb _ H' _ I3 fun σ4 H4 b4 I4 => ⟨_, _, b2.trans b4, I4, r⟩
  · rintro σ' H' ⟨ρ', n', b2, I2, fd⟩
    rw [hds.length, List.drop_length] at fd
    cases fd
    exact q σ' H' ((But.of s1).trans b2) I2
end
end My

namespace My
open PySem PySem.Spec PyProof.Rows L2
/-! ### the pen -/
/-- the pen at p: the list (at L) of the script's first ints, how many were drawn, what is left of the last -/
def Pen (H : Hp) (p L : Addr) (n : Nat) : Prop := ∃ (ns : List Int) (i r : Int), H p = some (.lst [.ref L, .int i, .int r]) ∧ H L = some (.lst (ns.map V.int)) ∧ ns.length ≤ 100 ∧ 0 ≤ i ∧ i ≤ n ∧ L ≠ p
theorem Pen.mono {H : Hp} {p L : Addr} {n m : Nat} (h : Pen H p L n) (l : n ≤ m) : Pen H p L m := by
  obtain ⟨ns, i, r, h1, h2, h3, h4, h5, h6⟩ := h
  exact ⟨ns, i, r, h1, h2, h3, h4, by omega, h6⟩
theorem Pen.at {H H' : Hp} {p L : Addr} {n : Nat} (h : Pen H p L n) (e1 : H' p = H p) (e2 : H' L = H L) : Pen H' p L n := by
  obtain ⟨ns, i, r, h1, h2, h3⟩ := h
  exact ⟨ns, i, r, e1.trans h1, e2.trans h2, h3⟩
theorem Pen.same {H H' : Hp} {p L : Addr} {n : Nat} (h : Pen H p L n) (e : Same H H') : Pen H' p L n := by
  obtain ⟨ns, i, r, h1, h2, h3⟩ := h
  exact ⟨ns, i, r, e _ _ h1, e _ _ h2, h3⟩
theorem Pen.p {H : Hp} {p L : Addr} {n : Nat} (h : Pen H p L n) : ∃ xs, H p = some (.lst xs) := by
  obtain ⟨ns, i, r, h1, _⟩ := h
  exact ⟨_, h1⟩
theorem Pen.l {H : Hp} {p L : Addr} {n : Nat} (h : Pen H p L n) : ∃ xs, H L = some (.lst xs) := by
  obtain ⟨ns, i, r, _, h1, _⟩ := h
  exact ⟨_, h1⟩
/-- an object that is written and is not the pen's -/
theorem Pen.upd {H : Hp} {p L q : Addr} {n : Nat} {o : HO} (h : Pen H p L n) (h1 : q ≠ p) (h2 : q ≠ L) : Pen (upd H q o) p L n := h.at (upd_ne h1.symm) (upd_ne h2.symm)
theorem Pen.newP {H : Hp} {p L q : Addr} {n : Nat} (h : Pen H p L n) (hq : H q = none) : q ≠ p := fun e => by obtain ⟨xs, h1⟩ := h.p; rw [e, h1] at hq; cases hq
theorem Pen.newL {H : Hp} {p L q : Addr} {n : Nat} (h : Pen H p L n) (hq : H q = none) : q ≠ L := fun e => by obtain ⟨xs, h1⟩ := h.l; rw [e, h1] at hq; cases hq
theorem Pen.tups {H H' : Hp} {p L : Addr} {n : Nat} (h : Pen H p L n) (b : But p H H') : Tup H H' := by obtain ⟨xs, h1⟩ := h.p; exact b.tups h1
theorem cut_len (ns : List Int) (k : Int) : ∃ ms : List Int, cutV (ns.map V.int) none (some k) = ms.map V.int ∧ ms.length ≤ ns.length := by
  refine ⟨(ns.drop (HT.sIx (ns.map V.int).length 0 none)).take (HT.sIx (ns.map V.int).length (ns.map V.int).length (some k) - HT.sIx (ns.map V.int).length 0 none), ?_, ?_⟩
  · unfold cutV
    rw [← List.map_drop, ← List.map_take]
  · rw [List.length_take, List.length_drop]
    omega
/-- what the top leaves of the built-in names -/
structure Bl (mg : Str → Option Value) : Prop where
  list : mg "list" = none
  len : mg "len" = none
  int : mg "int" = none
def spPen (K : PySem.W.Frag) : Sp := fun vs H Q _ => ∃ (a : Addr) (ns : List Int), vs = [.ref a] ∧ SqL K H a (ns.map V.int) ∧ ns.length ≤ 63 ∧ ∀ p L H', Same H H' → H p = none → H L = none → Pen H' p L 0 → Q (.ref p) H'
def spNext : Sp := fun vs H Q _ => ∃ (p L : Addr) (n : Nat), vs = [.ref p] ∧ Pen H p L n ∧ n < 2 ^ 40 ∧ ∀ (z : Int) H', But p H H' → Pen H' p L (n + 1) → Q (.int z) H'
def spDraw : Sp := fun vs H Q _ => ∃ (p L : Addr) (n : Nat) (u : Int), vs = [.ref p, .int u] ∧ Pen H p L n ∧ n < 2 ^ 40 ∧ 0 < u ∧ u < 1073741824 ∧ ∀ (d : Nat) H', But p H H' → Pen H' p L (n + 1) → (d : Int) < u → Q (.int d) H'
/-! ### the layer of drawn data: slots hold data, the pen stands in slot 0 -/
structure GS (p L : Addr) (S : Addr → Prop) (H : Hp) (n : Nat) (σ : L2.St) (ρ : Rho) : Prop where
  sl : SL S H σ ρ
  sp : S p
  pen : Pen H p L n
  at0 : σ[0]? = some (some (.ref p))
section
variable {p L : Addr} {S : Addr → Prop} {H H' : Hp} {n m : Nat} {σ : L2.St} {ρ : Rho} {v : V} {d : PyData}
theorem GS.dg (g : GS p L S H n σ ρ) (b : But p H H') (h : DG S H v d) : DG S H' v d := h.mono (g.pen.tups b) fun a o na e => ⟨na, b a o (fun z => na (z ▸ g.sp)) e⟩
theorem GS.dgs (g : GS p L S H n σ ρ) (b : But p H H') {vs : List V} {ds : List PyData} (h : DGs S H vs ds) : DGs S H' vs ds := h.mono (g.pen.tups b) fun a o na e => ⟨na, b a o (fun z => na (z ▸ g.sp)) e⟩
theorem GS.but (g : GS p L S H n σ ρ) (b : But p H H') (P' : Pen H' p L m) : GS p L S H' m σ ρ :=
  ⟨g.sl.keep (g.pen.tups b) (fun a o na e => b a o (fun z => na (z ▸ g.sp)) e) (fun a ha => by
    by_cases e : a = p
    · obtain ⟨xs, h⟩ := P'.p
      rw [e, h]
      exact fun z => by cases z
    · cases q : H a with
      | none => exact absurd q (g.sl.dom a ha)
      | some o => rw [b a o e q]; exact fun z => by cases z), g.sp, P', g.at0⟩
theorem GS.same (g : GS p L S H n σ ρ) (s : Same H H') : GS p L S H' n σ ρ := g.but (But.of s) (g.pen.same s)
theorem GS.set (g : GS p L S H n σ ρ) {i : Nat} (hi : i ≠ 0) (h : DG S H v d) : GS p L S H n (σ.set i (some v)) (ρ.set i (some d)) :=
  ⟨g.sl.set h, g.sp, g.pen, by rw [List.getElem?_set_ne hi]; exact g.at0⟩
end
def EG (X : Cx) (ρ : Rho) (e : Expr) (Φ : PyData → Prop) (c : Nat) : Prop := ∀ (p L : Addr) (S : Addr → Prop) (σ : L2.St) (H : Hp) (n : Nat) (Q : VK), GS p L S H n σ ρ → n + c < 2 ^ 39 →
  (∀ v d H', But p H H' → Pen H' p L (n + c) → DG S H' v d → Φ d → Q v H') → WE X e σ H Q
def AG (X : Cx) (ρ : Rho) (es : List Expr) (Φ : List PyData → Prop) (c : Nat) : Prop := ∀ (p L : Addr) (S : Addr → Prop) (σ : L2.St) (H : Hp) (n : Nat) (U : List V → Hp → Prop), GS p L S H n σ ρ → n + c < 2 ^ 39 →
  (∀ vs ds H', But p H H' → Pen H' p L (n + c) → DGs S H' vs ds → Φ ds → U vs H') → WA X es σ H U
def TG (X : Cx) (ρ : Rho) (e : Expr) (c : Nat) : Prop := ∀ (p L : Addr) (S : Addr → Prop) (σ : L2.St) (H : Hp) (n : Nat) (R : Bool → Hp → Prop), GS p L S H n σ ρ → n + c < 2 ^ 39 →
  (∀ k H', But p H H' → Pen H' p L (n + c) → R k H') → WT X e σ H R
def LG (X : Cx) (ρ : Rho) (l : List Stmt) (Φ : PyData → Prop) (c : Nat) : Prop := ∀ (p L : Addr) (S : Addr → Prop) (σ : L2.St) (H : Hp) (n : Nat) (D : Ends), GS p L S H n σ ρ → n + c < 2 ^ 39 →
  (∀ v d H', But p H H' → Pen H' p L (n + c) → DG S H' v d → Φ d → D.rt v H') → WL X l D σ H
def BGd (X : Cx) (scope : Scope) (ρ : Rho) (e : Expr) (Φ : PyData → Prop) (c : Nat) : Prop := ∀ (s : Shared) (H0 : Hp) (C : Addr) (cl : List (Str × Addr)) (fp : List Addr), EG (X.blk s H0 scope (compEnvC scope cl C X.env) fp) ρ e Φ c
section
variable {X : Cx} {ρ : Rho} {a b e hi : Expr} {es : List Expr} {ds : List PyData} {d : PyData} {Φ Ψ Φ' : PyData → Prop} {c c1 c2 c' : Nat} {pos q1 q2 q3 p2 pt pc : Pos} {x y : Str} {l : List Stmt}
theorem eg_of (h : ED X ρ e d) : EG X ρ e (fun z => z = d) 0 := fun p L S σ H n Q g hn q => h S σ H Q g.sl fun v H' s gd => q v d H' (But.of s) (g.pen.same s) gd rfl
theorem EG.mono (h : EG X ρ e Φ c) (k : ∀ d, Φ d → Φ' d) (lc : c ≤ c') : EG X ρ e Φ' c' := fun p L S σ H n Q g hn q => h p L S σ H n Q g (by omega) fun v d H' b P' gd f => q v d H' b (P'.mono (by omega)) gd (k d f)
theorem LG.mono (h : LG X ρ l Φ c) (k : ∀ d, Φ d → Φ' d) (lc : c ≤ c') : LG X ρ l Φ' c' := fun p L S σ H n D g hn q => h p L S σ H n D g (by omega) fun v d H' b P' gd f => q v d H' b (P'.mono (by omega)) gd (k d f)
/-- a draw -/
theorem eg_draw {j : Nat} {u : Int} (cD : CalN X.prog X.w X.K X.mg X.base 2 "_law_draw" spDraw) (hr : Room j X.A) (hk : 2 ≤ j) (h : ED X ρ e (.int u)) (h0 : 0 < u) (h1 : u < 1073741824)
    (hN : X.N[0]? = some x := by rfl) (hv : Vis X.env.scope x := by first | exact Or.inl rfl | exact Or.inr (Or.inl rfl) | exact Or.inr (Or.inr rfl)) (hd : (x == ("__debug__" : Str)) = false := by decide) (hcd : (x == ("__classdict__" : Str)) = false := by decide)
    (hg : Gl X "_law_draw" := by rfl) (s1 : starEach [.Name x q2, e] X.env = (false, eval (.Name x q2) X.env) :: starEach [e] X.env := by rfl) (s2 : starEach [e] X.env = (false, eval e X.env) :: starEach [] X.env := by rfl) (hpl : (backTo pos (starEach [e] X.env)).any (·.1) = false := by rfl) :
    EG X ρ (.Call (.Name "_law_draw" q1) [.Name x q2, e] [] pos) (fun d => ∃ k : Nat, d = .int k ∧ (k : Int) < u) 1 := fun p L S σ H n Q g hn q =>
  e_c cD hr hk (a_cons (e_var 0 g.at0 (a_cons (h S σ H _ g.sl fun v H1 t1 g1 => by
    cases g1
    exact a_nil ⟨p, L, n, u, rfl, g.pen.same t1, by omega, h0, h1, fun d H' b P' hd => q _ _ H' ((But.of t1).trans b) P' (.int _) ⟨d, rfl, hd⟩⟩) s2) hN hv hd hcd) s1) hg (by decide) s1 hpl
/-- parts -/
theorem ag_nil : AG X ρ [] (fun ds => ds = []) 0 := fun p L S σ H n U g hn q => a_nil (q [] [] H (But.refl _ _) g.pen .nil rfl)
theorem ag_cons {Ψ : List PyData → Prop} (h : EG X ρ e Φ c1) (hs : AG X ρ es Ψ c2) (he : starEach (e :: es) X.env = (false, eval e X.env) :: starEach es X.env := by rfl) : AG X ρ (e :: es) (fun ds => ∃ d r, ds = d :: r ∧ Φ d ∧ Ψ r) (c1 + c2) := fun p L S σ H n U g hn q =>
  a_cons (h p L S σ H n _ g (by omega) fun v d H1 b1 P1 g1 f1 => hs p L S σ H1 (n + c1) _ (g.but b1 P1) (by omega) fun vs ds H2 b2 P2 g2 f2 => q (v :: vs) (d :: ds) H2 (b1.trans b2) (by rw [← Nat.add_assoc]; exact P2) (.cons ((g.but b1 P1).dg b2 g1) g2) ⟨d, ds, rfl, f1, f2⟩) he
theorem eg_tup {kk : Nat} {Ψ : List PyData → Prop} (h : AG X ρ es Ψ c) (hl : ∀ ds, Ψ ds → ds.length ≤ 1000) : EG X ρ (.Tuple es kk pos) (fun d => ∃ ds, d = .tuple ds ∧ Ψ ds) c := fun p L S σ H n Q g hn q =>
  e_tup (h p L S σ H n _ g hn fun vs ds H1 b1 P1 g1 f1 => ⟨by rw [g1.length]; exact Nat.le_trans (hl ds f1) (by decide), fun r hr => q _ _ _ (b1.trans (But.of (same_new hr))) (P1.same (same_new hr)) (.tup upd_same (g1.same (same_new hr))) ⟨ds, rfl, f1⟩⟩)
theorem eg_lst {Ψ : List PyData → Prop} (h : AG X ρ es Ψ c) (hl : ∀ ds, Ψ ds → ds.length ≤ 1000) : EG X ρ (.List es pos) (fun d => ∃ ds, d = .list ds ∧ Ψ ds) c := fun p L S σ H n Q g hn q =>
  e_lst (h p L S σ H n _ g hn fun vs ds H1 b1 P1 g1 f1 => ⟨by rw [g1.length]; exact Nat.le_trans (hl ds f1) (by decide), fun r hr => q _ _ _ (b1.trans (But.of (same_new hr))) (P1.same (same_new hr)) (.lst upd_same (fun z => (g.but b1 P1).sl.dom r z hr) (g1.same (same_new hr))) ⟨ds, rfl, f1⟩⟩)
theorem eg_addN {i : Nat} {Φ : Nat → Prop} (ha : ED X ρ a (.int (i : Int))) (hb : EG X ρ b (fun d => ∃ k : Nat, d = .int k ∧ Φ k) c) : EG X ρ (.BinOp a .Add b pos) (fun d => ∃ k : Nat, d = .int ((i + k : Nat) : Int) ∧ Φ k) c := fun p L S σ H n Q g hn q =>
  e_addI (ha S σ H _ g.sl fun v H1 s1 g1 => hb p L S σ H1 n _ (g.same s1) hn fun u d H2 b2 P2 g2 ⟨k, e2, f2⟩ => by
    cases g1
    subst e2
    cases g2
    exact ⟨i, k, rfl, rfl, q _ _ H2 ((But.of s1).trans b2) P2 (.int _) ⟨k, by rw [Int.natCast_add], f2⟩⟩)
theorem eg_ixL (ha : ED X ρ a (.list ds)) (hb : EG X ρ b (fun d => ∃ k : Nat, d = .int k ∧ k < ds.length) c) (hs : PlainIx b := by exact fun _ _ => rfl) : EG X ρ (.Subscript a b pos) (fun d => d ∈ ds) c := fun p L S σ H n Q g hn q =>
  e_ixL (ha S σ H _ g.sl fun v H1 s1 g1 => hb p L S σ H1 n _ (g.same s1) hn fun u d H2 b2 P2 g2 ⟨k, e2, hk⟩ => by
    subst e2
    cases g2
    obtain ⟨l, xs, rfl, _, hs, sq⟩ := ((g.same s1).dg b2 g1).seqL (K := X.K)
    have lt : k < xs.length := by rw [hs.length]; exact hk
    obtain ⟨d', e1, gd⟩ := hs.get (List.getElem?_eq_getElem lt)
    exact ⟨l, xs, k, xs[k], rfl, rfl, sq, atI_nat (List.getElem?_eq_getElem lt), q _ d' H2 ((But.of s1).trans b2) P2 gd (List.mem_of_getElem? e1)⟩) hs
theorem eg_ixT (ha : ED X ρ a (.tuple ds)) (hb : EG X ρ b (fun d => ∃ k : Nat, d = .int k ∧ k < ds.length) c) (hs : PlainIx b := by exact fun _ _ => rfl) : EG X ρ (.Subscript a b pos) (fun d => d ∈ ds) c := fun p L S σ H n Q g hn q =>
  e_ixT (ha S σ H _ g.sl fun v H1 s1 g1 => hb p L S σ H1 n _ (g.same s1) hn fun u d H2 b2 P2 g2 ⟨k, e2, hk⟩ => by
    subst e2
    cases g2
    obtain ⟨l, xs, rfl, _, hs, sq⟩ := ((g.same s1).dg b2 g1).seq (K := X.K)
    have lt : k < xs.length := by rw [hs.length]; exact hk
    obtain ⟨d', e1, gd⟩ := hs.get (List.getElem?_eq_getElem lt)
    exact ⟨l, xs, k, xs[k], rfl, rfl, sq, atI_nat (List.getElem?_eq_getElem lt), q _ d' H2 ((But.of s1).trans b2) P2 gd (List.mem_of_getElem? e1)⟩) hs
theorem cutD_take (xs : List PyData) (k : Nat) : cutD xs none (some (k : Int)) = xs.take k := by
  unfold cutD
  rw [HT.sIx_none, HT.sIx_nat, List.drop_zero, Nat.sub_zero]
  by_cases h : k ≤ xs.length
  · rw [Nat.min_eq_left h]
  · rw [Nat.min_eq_right (by omega), List.take_length, List.take_of_length_le (by omega)]
theorem eg_slTo {Φ : Nat → Prop} (ha : ED X ρ a (.tuple ds)) (hb : EG X ρ hi (fun d => ∃ k : Nat, d = .int k ∧ Φ k) c) : EG X ρ (.Subscript a (.Slice none (some hi) none p2) pos) (fun d => ∃ k : Nat, d = .tuple (ds.take k) ∧ Φ k) c := fun p L S σ H n Q g hn q =>
  toE (pe_slice sl_tupA pE po_none (po_some pE)) (ha S σ H _ g.sl fun v H1 s1 g1 => hb p L S σ H1 n _ (g.same s1) hn fun u d H2 b2 P2 g2 ⟨k, e2, f2⟩ => by
    subst e2
    cases g2
    refine ⟨k, rfl, slT_end (Same.refl H2) ((g.same s1).dg b2 g1) fun v H3 s3 g3 => ?_⟩
    rw [cutD_take] at g3
    exact q v _ H3 (((But.of s1).trans b2).trans (But.of s3)) (P2.same s3) g3 ⟨k, rfl, f2⟩)
theorem eg_tupL {Ψ : List PyData → Prop} (hm : X.mg "tuple" = none) (h : EG X ρ e (fun d => ∃ ds, d = .list ds ∧ Ψ ds) c) (hg : Gl X "tuple" := by rfl)
    (he : starEach [e] X.env = (false, eval e X.env) :: starEach [] X.env := by rfl) : EG X ρ (.Call (.Name "tuple" q1) [e] [] pos) (fun d => ∃ ds, d = .tuple ds ∧ Ψ ds) c := fun p L S σ H n Q g hn q =>
  e_tupL hm (h p L S σ H n _ g hn fun v d H1 b1 P1 g1 ⟨ds, e1, f1⟩ => by
    subst e1
    obtain ⟨l, xs, rfl, _, hs, sq⟩ := g1.seqL (K := X.K)
    exact ⟨l, xs, rfl, sq, fun t ht => q _ _ _ (b1.trans (But.of (same_new ht))) (P1.same (same_new ht)) (.tup upd_same (hs.same (same_new ht))) ⟨ds, rfl, f1⟩⟩) hg he rfl
theorem tg_eqI {j : Int} (h : EG X ρ a (fun d => ∃ k : Nat, d = .int k ∧ True) c) (hb : ED X ρ b (.int j)) (hm : behindInMarks .Eq b = false := by first | exact nomark _ | with_unfolding_all rfl) : TG X ρ (.Compare a [.Eq] [b] pos) c := fun p L S σ H n R g hn q =>
  t_eq (h p L S σ H n _ g hn fun v d H1 b1 P1 g1 ⟨k, e1, _⟩ => hb S σ H1 _ (g.but b1 P1).sl fun u H2 s2 g2 => by
    subst e1
    cases g1; cases g2
    exact ⟨rfl, q _ H2 (b1.trans (But.of s2)) (P1.same s2)⟩) hm
theorem eg_if {t : Expr} (ht : TG X ρ t c) (ha : EG X ρ a Φ c1) (hb : EG X ρ b Φ c2) (l1 : c1 ≤ c') (l2 : c2 ≤ c') : EG X ρ (.IfExp t a b pos) Φ (c + c') := fun p L S σ H n Q g hn q =>
  e_if (ht p L S σ H n _ g (by omega) fun k H1 b1 P1 => ⟨fun _ => ha p L S σ H1 (n + c) Q (g.but b1 P1) (by omega) fun v d H2 b2 P2 g2 f2 => q v d H2 (b1.trans b2) (P2.mono (by omega)) g2 f2, fun _ => hb p L S σ H1 (n + c) Q (g.but b1 P1) (by omega) fun v d H2 b2 P2 g2 f2 => q v d H2 (b1.trans b2) (P2.mono (by omega)) g2 f2⟩)
/-! calls of defs that draw: by their promise -/
def spGen (Pre : List PyData → Prop) (Φ : List PyData → PyData → Prop) (c : Nat) : Sp := fun vs H Q _ => ∃ p L n S ws ds, vs = .ref p :: ws ∧ S p ∧ (∀ a, S a → H a ≠ none) ∧ DGs S H ws ds ∧ Pen H p L n ∧ n + c < 2 ^ 39 ∧ Pre ds ∧
  ∀ v d H', But p H H' → Pen H' p L (n + c) → DG S H' v d → Φ ds d → Q v H'
theorem eg_call {kk j : Nat} {Pre : List PyData → Prop} {Φ : List PyData → PyData → Prop} (cF : CalN X.prog X.w X.K X.mg X.base kk y (spGen Pre Φ c)) (hr : Room j X.A) (hk : kk ≤ j) (h : AD X ρ es ds) (hp : Pre ds)
    (hN : X.N[0]? = some x := by rfl) (hv : Vis X.env.scope x := by first | exact Or.inl rfl | exact Or.inr (Or.inl rfl) | exact Or.inr (Or.inr rfl)) (hd : (x == ("__debug__" : Str)) = false := by decide) (hcd : (x == ("__classdict__" : Str)) = false := by decide)
    (hg : Gl X y := by rfl) (hdb : (y == ("__debug__" : Str)) = false := by decide) (s1 : starEach (.Name x q2 :: es) X.env = (false, eval (.Name x q2) X.env) :: starEach es X.env := by rfl) (hpl : (backTo pos (starEach es X.env)).any (·.1) = false := by rfl) :
    EG X ρ (.Call (.Name y q1) (.Name x q2 :: es) [] pos) (Φ ds) c := fun p L S σ H n Q g hn q =>
  e_c cF hr hk (a_cons (e_var 0 g.at0 (h S σ H _ g.sl fun vs H1 t1 g1 => by
    rw [List.append_nil]
    exact ⟨p, L, n, S, vs, ds, rfl, g.sp, in_same t1 g.sl.dom, g1, g.pen.same t1, hn, hp, fun v d H' b P' gd f => q v d H' ((But.of t1).trans b) P' gd f⟩) hN hv hd hcd) s1) hg hdb s1 hpl
/-! statements -/
theorem lg_ret (h : EG X ρ e Φ c) : LG X ρ (.Return (some e) pos :: l) Φ c := fun p L S σ H n D g hn q => l_cons (s_ret (h p L S σ H n _ g hn q))
theorem lg_set (i : Nat) (h : EG X ρ e Φ c1) (hs : ∀ d, Φ d → LG X (ρ.set i (some d)) l Ψ c2) (h0 : i ≠ 0) (hN : X.N.Nodup) (hi : X.N[i]? = some x := by rfl) (hx : Loc X.env.scope x := by first | exact Or.inl rfl | exact Or.inr rfl)
    (hsw : swapsWith e (some (.Name x q1)) pos.line X.env = pure false := by rfl) (hf : X.fn x = true ∨ X.env.scope.names.lookup x = some .local := by first | exact .inl rfl | exact .inr rfl | assumption) : LG X ρ (.Assign [.Name x q1] e pos :: l) Ψ (c1 + c2) := fun p L S σ H n D g hn q =>
  l_cons (s_set i (h p L S σ H n _ g (by omega) fun v d H1 b1 P1 g1 f1 => hs d f1 p L S _ H1 (n + c1) D ((g.but b1 P1).set h0 g1) (by omega) fun v d H2 b2 P2 g2 f2 => q v d H2 (b1.trans b2) (by rw [← Nat.add_assoc]; exact P2) g2 f2) hN hi hx hsw hf)
theorem lg_setD (i : Nat) (h : ED X ρ e d) (hs : LG X (ρ.set i (some d)) l Ψ c2) (h0 : i ≠ 0) (hN : X.N.Nodup) (hi : X.N[i]? = some x := by rfl) (hx : Loc X.env.scope x := by first | exact Or.inl rfl | exact Or.inr rfl)
    (hsw : swapsWith e (some (.Name x q1)) pos.line X.env = pure false := by rfl) (hf : X.fn x = true ∨ X.env.scope.names.lookup x = some .local := by first | exact .inl rfl | exact .inr rfl | assumption) : LG X ρ (.Assign [.Name x q1] e pos :: l) Ψ c2 :=
  (lg_set i (eg_of h) (fun z ez => by rw [ez]; exact hs) h0 hN hi hx hsw hf).mono (fun _ f => f) (by omega)
/-- a, b, c = a list of three -/
theorem lg_unp3L {x1 x2 x3 : Str} {r1 r2 r3 : Pos} {kt : Nat} {P3 : PyData → PyData → PyData → Prop} (i1 i2 i3 : Nat) (h : EG X ρ e (fun d => ∃ d1 d2 d3, d = .list [d1, d2, d3] ∧ P3 d1 d2 d3) c1)
    (hs : ∀ d1 d2 d3, P3 d1 d2 d3 → LG X (((ρ.set i1 (some d1)).set i2 (some d2)).set i3 (some d3)) l Ψ c2) (h1 : i1 ≠ 0) (h2 : i2 ≠ 0) (h3 : i3 ≠ 0)
    (hg : PG X (.Tuple [.Name x1 r1, .Name x2 r2, .Name x3 r3] kt pt) (gLst X.K 3 (gCons (gName i1) (gCons (gName i2) (gCons (gName i3) gNil)))))
    (hsw : swapsWithSole [.Tuple [.Name x1 r1, .Name x2 r2, .Name x3 r3] kt pt] e pos.line X.env = pure false := by rfl) (hw : swappedStores [.Tuple [.Name x1 r1, .Name x2 r2, .Name x3 r3] kt pt] e X.env = pure none := by rfl)
    (ha : (assignEach [.Tuple [.Name x1 r1, .Name x2 r2, .Name x3 r3] kt pt] X.env).map (·.2) = [assign (.Tuple [.Name x1 r1, .Name x2 r2, .Name x3 r3] kt pt) X.env] := by rfl) :
    LG X ρ (.Assign [.Tuple [.Name x1 r1, .Name x2 r2, .Name x3 r3] kt pt] e pos :: l) Ψ (c1 + c2) := fun p L S σ H n D g hn q =>
  l_cons (s_asg hg (h p L S σ H n _ g (by omega) fun v d H1 b1 P1 g1 ⟨d1, d2, d3, e1, f1⟩ => by
    subst e1
    obtain ⟨a, xs, rfl, ha', hs', sq⟩ := g1.seqL (K := X.K)
    cases hs' with
    | cons k1 r1 => cases r1 with
      | cons k2 r2 => cases r2 with
        | cons k3 r3 =>
          cases r3
          exact ⟨a, _, rfl, sq, rfl, _, _, rfl, _, _, rfl, _, _, rfl, rfl, hs d1 d2 d3 f1 p L S _ H1 (n + c1) D ((((g.but b1 P1).set h1 k1).set h2 k2).set h3 k3) (by omega) fun v d H2 b2 P2 g2 f2 => q v d H2 (b1.trans b2) (by rw [← Nat.add_assoc]; exact P2) g2 f2⟩) hsw hw ha)
/-! comprehensions over range that draw -/
section
variable {elt : Expr} {scope : Scope} {qr : Pos}
theorem lcG_core (j : Nat) {N : Nat} {Kq : Addr → Hp → Prop} {p L : Addr} {S : Addr → Prop} {σ : L2.St} {H : Hp} {n : Nat} {N0 : Nat → Prop} (h0 : j ≠ 0) (h : EG X ρ a (fun d => ∃ k : Nat, d = .int k ∧ k ≤ N ∧ N0 k) c1) (hN1 : N ≤ 1000) (hel : ∀ i < N, BGd X scope (ρ.set j (some (.int i))) elt Φ c2)
    (g : GS p L S H n σ ρ) (hn : n + (c1 + N * c2) < 2 ^ 39) (q : ∀ Dn ds H', But p H H' → Pen H' p L (n + (c1 + N * c2)) → DG S H' (.ref Dn) (.list ds) → (∀ d ∈ ds, Φ d) → ds.length ≤ N → N0 ds.length → Kq Dn H') :
    WE X a σ H fun v H1 => ∃ k : Nat, v = .int k ∧ k < 2 ^ 62 ∧ ∀ Dn, H1 Dn = none → ∃ Pv : Nat → Hp → Prop, Pv 0 (upd H1 Dn (.lst [])) ∧
      (∀ i H, i < k → Pv i H → WB X scope elt ((wipe σ [j]).set j (some (.int i))) H fun z H4 => ∃ acc, H4 Dn = some (.lst acc) ∧ acc.length < sizeLine ∧ Pv (i + 1) (upd H4 Dn (.lst (acc ++ [z])))) ∧
      ∀ H, Pv k H → Kq Dn H := by
  refine h p L S σ H n _ g (by omega) fun v d H1 b1 P1 g1 ⟨k, e1, hk, f1⟩ => ?_
  subst e1
  cases g1
  refine ⟨k, rfl, by omega, fun Dn nD => ?_⟩
  have g1 := g.but b1 P1
  have nDp : Dn ≠ p := P1.newP nD
  have nDL : Dn ≠ L := P1.newL nD
  have slD := g1.sl.and1 (o := .lst []) nD
  refine ⟨fun i H' => ∃ ys ds, (∀ b o, b ≠ p → b ≠ Dn → H1 b = some o → H' b = some o) ∧ Pen H' p L (n + c1 + i * c2) ∧ H' Dn = some (.lst ys) ∧ ys.length = i ∧ DGs (And1 S Dn) H' ys ds ∧ ∀ d ∈ ds, Φ d, ?_, ?_, ?_⟩
  · exact ⟨[], [], fun b o _ nb e => by rw [upd_ne nb]; exact e, by rw [Nat.zero_mul]; exact P1.same (same_new nD), upd_same, rfl, .nil, fun d hd => by cases hd⟩
  · rintro i H' hi ⟨ys, ds, k1, k2, k3, k4, k5, k6⟩ s0 H00 C cl fp
    have tup : Tup (upd H1 Dn (.lst [])) H' := fun b xs e => by
      have nb : b ≠ Dn := fun z => by rw [z, upd_same] at e; cases e
      rw [upd_ne nb] at e
      obtain ⟨zs, hp⟩ := P1.p
      exact k1 b _ (ne_of e hp (fun z => by cases z)) nb e
    have gD : GS p L (And1 S Dn) H' (n + c1 + i * c2) ((wipe σ [j]).set j (some (.int i))) (ρ.set j (some (.int i))) := by
      refine ⟨?_, .inl g1.sp, k2, ?_⟩
      · have s2 : SL (And1 S Dn) H' σ ρ := slD.keep tup (fun a o na e => by
          have nb : a ≠ Dn := fun z => na (.inr z)
          have np : a ≠ p := fun z => na (.inl (z ▸ g1.sp))
          rw [upd_ne nb] at e
          exact k1 a o np nb e) (fun a ha => by
            rcases ha with ha | ha
            · by_cases e : a = p
              · obtain ⟨xs, hp⟩ := k2.p
                rw [e, hp]; exact fun z => by cases z
              · have nb : a ≠ Dn := fun z => g1.sl.dom a ha (by rw [z]; exact nD)
                cases q : H1 a with
                | none => exact absurd q (g1.sl.dom a ha)
                | some o => rw [k1 a o e nb q]; exact fun z => by cases z
            · rw [ha, k3]; exact fun z => by cases z)
        have s3 := (s2.wipe (i := j)).set (i := j) (d := .int i) (v := .int i) (.int _)
        have e1 : (ρ.set j none).set j (some (PyData.int i)) = ρ.set j (some (.int i)) := List.set_set ..
        rw [e1] at s3
        exact s3
      · show (((σ.set j none).set j (some (.int i))) : L2.St)[0]? = _
        rw [List.getElem?_set_ne h0, List.getElem?_set_ne h0]
        exact g1.at0
    have hb : i * c2 + c2 ≤ N * c2 := by
      have : (i + 1) * c2 ≤ N * c2 := Nat.mul_le_mul_right c2 (by omega)
      rw [Nat.add_mul, Nat.one_mul] at this
      exact this
    refine hel i (by omega) s0 H00 C cl fp p L (And1 S Dn) _ H' (n + c1 + i * c2) _ gD (by omega) fun z d H4 b4 P4 g4 f4 => ?_
    have h4 : H4 Dn = some (.lst ys) := b4 _ _ nDp k3
    refine ⟨ys, h4, by rw [k4]; exact Nat.lt_of_lt_of_le (show i < 1001 by omega) (by decide), ys ++ [z], ds ++ [d], fun b o np nb e => ?_, ?_, upd_same, by rw [List.length_append, k4]; rfl, ?_, ?_⟩
    · rw [upd_ne nb]; exact b4 b o np (k1 b o np nb e)
    · have P5 : Pen H4 p L (n + c1 + (i + 1) * c2) := P4.mono (by rw [Nat.add_mul, Nat.one_mul]; omega)
      exact P5.upd nDp nDL
    · exact (((gD.dgs b4 k5)).append (.cons g4 .nil)).put h4
    · intro y hy
      rcases List.mem_append.mp hy with hy | hy
      · exact k6 y hy
      · rw [List.mem_singleton.mp hy]; exact f4
  · rintro H' ⟨ys, ds, k1, k2, k3, k4, k5, k6⟩
    have hb : k * c2 ≤ N * c2 := Nat.mul_le_mul_right c2 hk
    have eL : ds.length = k := by rw [← k5.length, k4]
    refine q Dn ds H' (b1.trans fun b o np e => k1 b o np (ne_of_none e nD) e) (k2.mono (by omega)) (.lst k3 (fun z => g1.sl.dom Dn z nD) k5.un1) k6 (by omega) (by rw [eL]; exact f1)
theorem eg_lcR (j : Nat) {N : Nat} {N0 : Nat → Prop} (h0 : j ≠ 0) (hm : X.mg "range" = none) (hN : X.N.Nodup) (okb : BlkOk X.N X.env.scope scope [(x, j)]) (h : EG X ρ a (fun d => ∃ k : Nat, d = .int k ∧ k ≤ N ∧ N0 k) c1) (hN1 : N ≤ 1000) (hel : ∀ i < N, BGd X scope (ρ.set j (some (.int i))) elt Φ c2)
    (hg : ∀ (s : Shared) (H : Hp) (C : Addr) (cl : List (Str × Addr)) (fp : List Addr), PG (X.blk s H scope (compEnvC scope cl C X.env) fp) (.Name x pt) (gName j))
    (hgl : Gl X "range" := by rfl) (hst : starEach [a] X.env = [(false, eval a X.env)] := by rfl) (hc : X.calm = true := by rfl) (hs : ∀ z, foldedSetIterable (.Call (.Name "range" qr) [a] [] pc) X.env z = pure z := by intro _; rfl) :
    EG X ρ (.ListComp elt [⟨.Name x pt, .Call (.Name "range" qr) [a] [] pc, [], 0⟩] scope pos) (fun d => ∃ ds, d = .list ds ∧ (∀ d ∈ ds, Φ d) ∧ ds.length ≤ N ∧ N0 ds.length) (c1 + N * c2) := fun p L S σ H n Q g hn q =>
  e_lcR j hm hN okb (lcG_core j (Kq := fun Dn H' => Q (.ref Dn) H') h0 h hN1 hel g hn fun Dn ds H' b P' gd f l1 l2 => q _ _ H' b P' gd ⟨ds, rfl, f, l1, l2⟩) hg hgl hst hc hs
/-- y = [.. for x in range(..)] -/
theorem lg_lcR (i j : Nat) {N : Nat} {N0 : Nat → Prop} (hi0 : i ≠ 0) (h0 : j ≠ 0) (hm : X.mg "range" = none) (hN : X.N.Nodup) (okb : BlkOk X.N X.env.scope scope [(x, j)]) (h : EG X ρ a (fun d => ∃ k : Nat, d = .int k ∧ k ≤ N ∧ N0 k) c1) (hN1 : N ≤ 1000) (hel : ∀ i < N, BGd X scope (ρ.set j (some (.int i))) elt Φ c2)
    {py spos : Pos} {c3 : Nat} (hl : ∀ ds, (∀ d ∈ ds, Φ d) → ds.length ≤ N → N0 ds.length → LG X (ρ.set i (some (.list ds))) l Ψ c3)
    (hg : ∀ (s : Shared) (H : Hp) (C : Addr) (cl : List (Str × Addr)) (fp : List Addr), PG (X.blk s H scope (compEnvC scope cl C X.env) fp) (.Name x pt) (gName j))
    (hsw : swapsWith (.ListComp elt [⟨.Name x pt, .Call (.Name "range" qr) [a] [] pc, [], 0⟩] scope pos) (some (.Name y py)) spos.line X.env = pure true)
    (hy : X.N[i]? = some y := by rfl) (hyl : X.env.scope.names.lookup y = some .local := by rfl)
    (hgl : Gl X "range" := by rfl) (hst : starEach [a] X.env = [(false, eval a X.env)] := by rfl) (hc : X.calm = true := by rfl) (hs : ∀ z, foldedSetIterable (.Call (.Name "range" qr) [a] [] pc) X.env z = pure z := by intro _; rfl) :
    LG X ρ (.Assign [.Name y py] (.ListComp elt [⟨.Name x pt, .Call (.Name "range" qr) [a] [] pc, [], 0⟩] scope pos) spos :: l) Ψ (c1 + N * c2 + c3) := fun p L S σ H n D g hn q =>
  l_cons (s_lcR i j hm hN okb (lcG_core j (Kq := fun Dn H' => WL X l D (σ.set i (some (.ref Dn))) H') h0 h hN1 hel g (by omega) fun Dn ds H' b P' gd f l1 l2 =>
    hl ds f l1 l2 p L S _ H' (n + (c1 + N * c2)) D ((g.but b P').set hi0 gd) (by omega) fun v d H2 b2 P2 g2 f2 => q v d H2 (b.trans b2) (P2.mono (by omega)) g2 f2) hg hsw hy hyl hgl hst hc hs)
end
end
/-! the same, with what is left of the draws -/
section
variable {X : Cx} {ρ : Rho} {a e : Expr} {d : PyData} {Φ Ψ : PyData → Prop} {c c1 c2 : Nat} {pos q1 pt pc : Pos} {x y : Str} {l : List Stmt}
theorem lg_retB (h : EG X ρ e Φ c1) (hc : c1 ≤ c := by decide) : LG X ρ (.Return (some e) pos :: l) Φ c := (lg_ret h).mono (fun _ f => f) hc
theorem lg_setB (i : Nat) (h : EG X ρ e Φ c1) (hs : ∀ d, Φ d → LG X (ρ.set i (some d)) l Ψ (c - c1)) (h0 : i ≠ 0) (hN : X.N.Nodup) (hc : c1 ≤ c := by decide) (hi : X.N[i]? = some x := by rfl) (hx : Loc X.env.scope x := by first | exact Or.inl rfl | exact Or.inr rfl)
    (hsw : swapsWith e (some (.Name x q1)) pos.line X.env = pure false := by rfl) (hf : X.fn x = true ∨ X.env.scope.names.lookup x = some .local := by first | exact .inl rfl | exact .inr rfl | assumption) : LG X ρ (.Assign [.Name x q1] e pos :: l) Ψ c :=
  (lg_set i h hs h0 hN hi hx hsw hf).mono (fun _ f => f) (by omega)
theorem lg_unp3B {x1 x2 x3 : Str} {r1 r2 r3 : Pos} {kt : Nat} {P3 : PyData → PyData → PyData → Prop} (i1 i2 i3 : Nat) (h : EG X ρ e (fun d => ∃ d1 d2 d3, d = .list [d1, d2, d3] ∧ P3 d1 d2 d3) c1)
    (hs : ∀ d1 d2 d3, P3 d1 d2 d3 → LG X (((ρ.set i1 (some d1)).set i2 (some d2)).set i3 (some d3)) l Ψ (c - c1)) (h1 : i1 ≠ 0) (h2 : i2 ≠ 0) (h3 : i3 ≠ 0)
    (hg : PG X (.Tuple [.Name x1 r1, .Name x2 r2, .Name x3 r3] kt pt) (gLst X.K 3 (gCons (gName i1) (gCons (gName i2) (gCons (gName i3) gNil))))) (hc : c1 ≤ c := by decide)
    (hsw : swapsWithSole [.Tuple [.Name x1 r1, .Name x2 r2, .Name x3 r3] kt pt] e pos.line X.env = pure false := by rfl) (hw : swappedStores [.Tuple [.Name x1 r1, .Name x2 r2, .Name x3 r3] kt pt] e X.env = pure none := by rfl)
    (ha : (assignEach [.Tuple [.Name x1 r1, .Name x2 r2, .Name x3 r3] kt pt] X.env).map (·.2) = [assign (.Tuple [.Name x1 r1, .Name x2 r2, .Name x3 r3] kt pt) X.env] := by rfl) :
    LG X ρ (.Assign [.Tuple [.Name x1 r1, .Name x2 r2, .Name x3 r3] kt pt] e pos :: l) Ψ c :=
  (lg_unp3L i1 i2 i3 h hs h1 h2 h3 hg hsw hw ha).mono (fun _ f => f) (by omega)
theorem lg_lcRB {elt : Expr} {scope : Scope} {qr : Pos} (i j : Nat) {N : Nat} {N0 : Nat → Prop} (hi0 : i ≠ 0) (h0 : j ≠ 0) (hm : X.mg "range" = none) (hN : X.N.Nodup) (okb : BlkOk X.N X.env.scope scope [(x, j)]) (h : EG X ρ a (fun d => ∃ k : Nat, d = .int k ∧ k ≤ N ∧ N0 k) c1) (hN1 : N ≤ 1000) (hel : ∀ i < N, BGd X scope (ρ.set j (some (.int i))) elt Φ c2)
    {py spos : Pos} (hl : ∀ ds, (∀ d ∈ ds, Φ d) → ds.length ≤ N → N0 ds.length → LG X (ρ.set i (some (.list ds))) l Ψ (c - (c1 + N * c2)))
    (hg : ∀ (s : Shared) (H : Hp) (C : Addr) (cl : List (Str × Addr)) (fp : List Addr), PG (X.blk s H scope (compEnvC scope cl C X.env) fp) (.Name x pt) (gName j))
    (hsw : swapsWith (.ListComp elt [⟨.Name x pt, .Call (.Name "range" qr) [a] [] pc, [], 0⟩] scope pos) (some (.Name y py)) spos.line X.env = pure true) (hc0 : c1 + N * c2 ≤ c := by decide)
    (hy : X.N[i]? = some y := by rfl) (hyl : X.env.scope.names.lookup y = some .local := by rfl)
    (hgl : Gl X "range" := by rfl) (hst : starEach [a] X.env = [(false, eval a X.env)] := by rfl) (hc : X.calm = true := by rfl) (hs : ∀ z, foldedSetIterable (.Call (.Name "range" qr) [a] [] pc) X.env z = pure z := by intro _; rfl) :
    LG X ρ (.Assign [.Name y py] (.ListComp elt [⟨.Name x pt, .Call (.Name "range" qr) [a] [] pc, [], 0⟩] scope pos) spos :: l) Ψ c :=
  (lg_lcR i j hi0 h0 hm hN okb h hN1 hel hl hg hsw hy hyl hgl hst hc hs).mono (fun _ f => f) (by omega)
end
/-! defs that draw -/
def startG (N : List Str) (ds : List PyData) : Rho := none :: ds.map some ++ List.replicate (N.length - (ds.length + 1)) none
theorem Fun.okGen {P : Program} {w : World} {K : PySem.W.Frag} {mg : Str → Option Value} {base : Heap} {x qual : Str} {st : Stmt} {f : Addr} {fd : FuncData} {N ps : List Str} {k : Nat} {Pre : List PyData → Prop} {Φ : List PyData → PyData → Prop} {c : Nat} (F : Fun K x qual st f fd) (S : FnScope N ps (defScope st))
    (len : ∀ ds, Pre ds → ds.length + 1 = ps.length)
    (body : ∀ (cdv : Value) (B : Around) (out : List Env) (s : Shared) (H : Hp) (E : XK) (ds : List PyData), Room k (B.deeper (envOfC qual (defScope st) s.heap.objs.size f cdv)) → Pre ds →
      LG (cxOf CX0 P w K mg base N qual (defScope st) f cdv B out s H E).nox (startG N ds) (defBody st) (Φ ds) c) : FnOk P w K mg base CX0 (k + 1) f fd ps (spGen Pre Φ c) :=
  Fun.okW F S (fun vs H Q E ⟨p, L, n, S0, ws, ds, e, _, _, g, _, _, hp, _⟩ => by rw [e, List.length_cons, g.length]; exact len ds hp) fun cdv B out s H vs Q E hr ⟨p, L, n, S0, ws, ds, e, sp, dom, g, P1, hn, hp, q⟩ => by
    subst e
    refine body cdv B out s H E ds hr hp p L S0 _ H n _ ⟨⟨dom, fun i d qd => ?_, ?_⟩, sp, P1, ?_⟩ hn q
    · have lw := g.length
      unfold startG at qd
      cases i with
      | zero => cases qd
      | succ i =>
        have qd' : (ds.map some ++ List.replicate (N.length - (ds.length + 1)) (none : Option PyData))[i]? = some (some d) := qd
        by_cases lt : i < ds.length
        · rw [List.getElem?_append_left (by rw [List.length_map]; exact lt), List.getElem?_map] at qd'
          have lv : i < ws.length := by omega
          obtain ⟨d', e1, e2⟩ := g.get (List.getElem?_eq_getElem lv)
          rw [e1] at qd'
          cases qd'
          refine ⟨ws[i], ?_, e2⟩
          show ((V.ref p :: ws).map some ++ List.replicate (N.length - (ws.length + 1)) none : L2.St)[i + 1]? = _
          rw [List.getElem?_append_left (by rw [List.length_map, List.length_cons]; omega), List.getElem?_map, List.getElem?_cons_succ, List.getElem?_eq_getElem lv]
          rfl
        · rw [List.getElem?_append_right (by rw [List.length_map]; omega), List.getElem?_replicate] at qd'
          split at qd' <;> cases qd'
    · have lw := g.length
      unfold L2.start startG
      simp only [List.length_append, List.length_map, List.length_cons, List.length_replicate]
      omega
    · rfl
end My

namespace K02
open PySem PySem.Spec PyProof.Rows L2 My
def top (i : Nat) : Stmt := PySem.Challenge.pw_boundonce_k02_catalogs_made.main.body.getD i (.Pass ⟨0, 0, 0, 0⟩)
abbrev sPen : Stmt := top 21
abbrev sNext : Stmt := top 22
abbrev sDraw : Stmt := top 23
section
variable {P : Program} {w : World} {K : PySem.W.Frag} {mg : Str → Option Value} {base : Heap} {f fd : _}
theorem scPen : FnScope ["_law_script"] ["_law_script"] (defScope sPen) := ⟨rfl, rfl, rfl, by decide +kernel, rfl, by decide +kernel, by decide +kernel⟩
theorem ok_pen {f : Addr} {fd : FuncData} (F : Fun K "_law_pen" "_law_pen" sPen f fd) (G : Bl mg) : FnOk P w K mg base CX0 1 f fd ["_law_script"] (spPen K) := by
  refine Fun.okW F scPen (fun vs H Q E h => by obtain ⟨a, ns, rfl, _⟩ := h; rfl) (fun cdv B out s H vs Q E hr h => ?_)
  obtain ⟨a, ns, rfl, hS, hl, q⟩ := h
  obtain ⟨ms, em, lm⟩ := cut_len ns 60
  refine l_one (s_ret (e_lst (a_cons (e_callT call_list_of G.list PyProof.Rows.boot_list (a_cons (e_slL (e_var 0 rfl (e_int ⟨60, a, _, rfl, rfl, hS, fun c hc => ?_⟩))))))))
  refine a_nil ⟨c, _, rfl, .inl (.inl (.inl upd_same)), fun L hL => ?_⟩
  refine a_cons (e_int (a_cons (e_int (a_nil ⟨by show 3 ≤ sizeLine; decide, fun p hp => ?_⟩))))
  refine q p L _ ((same_new hc).trans ((same_new hL).trans (same_new hp))) ((same_new hc).free ((same_new hL).free hp)) ((same_new hc).free hL) ?_
  exact ⟨ms, 0, 0, upd_same, by rw [upd_ne (ne_of_none upd_same hp), upd_same, em], by omega, by decide, by decide, ne_of_none upd_same hp⟩
theorem scNext : FnScope ["_law_pen_here", "_law_index", "_law_cell_here", "_law_some_here", "_law_more", "_law_top"] ["_law_pen_here"] (defScope sNext) := ⟨rfl, rfl, rfl, by decide +kernel, rfl, by decide +kernel, by decide +kernel⟩
theorem at0 {α : Type} (a b c : α) : atI [a, b, c] 0 = some a := rfl
theorem at1 {α : Type} (a b c : α) : atI [a, b, c] 1 = some b := rfl
theorem at2 {α : Type} (a b c : α) : atI [a, b, c] 2 = some c := rfl
theorem dp_int {H : Hp} : ∀ ns : List Int, DpAll K H (ns.map V.int) (ns.map PyData.int)
  | [] => .nil
  | n :: ns => .cons (.int n) (dp_int ns)
theorem shaped_ints : ∀ ns : List Int, SeqAt.shaped (.list (ns.map PyData.int)) = true := fun ns => by
  have h1 : ∀ ms : List Int, PyData.canLayAll0 (ms.map PyData.int) = true := fun ms => by
    induction ms with
    | nil => rfl
    | cons m ms ih => show (true && PyData.canLayAll0 (ms.map PyData.int)) = true; rw [ih]; rfl
  have h2 : ∀ ms : List Int, PyData.depthAll (ms.map PyData.int) = 0 := fun ms => by
    induction ms with
    | nil => rfl
    | cons m ms ih => show max 0 (PyData.depthAll (ms.map PyData.int)) = 0; rw [ih]; rfl
  show (PyData.canLayAll0 (ns.map PyData.int) && decide (PyData.depthAll (ns.map PyData.int) + 1 ≤ 64)) = true
  rw [h1, h2]
  rfl
theorem ok_next {f : Addr} {fd : FuncData} (F : Fun K "_law_next" "_law_next" sNext f fd) (G : Bl mg) : FnOk P w K mg base CX0 1 f fd ["_law_pen_here"] spNext := by
  refine Fun.okW F scNext (fun vs H Q E h => by obtain ⟨a, b, n, rfl, _⟩ := h; rfl) (fun cdv B out s H vs Q E hr h => ?_)
  obtain ⟨p, L, n, rfl, ⟨ns, i, r, h1, h2, h3, h4, h5, h6⟩, hn, q⟩ := h
  -- index = pen[1]; pen[1] = index + 1
  refine l_cons (s_set 1 (e_ixL (e_var 0 rfl (e_int ⟨p, _, 1, _, rfl, rfl, .inl (.inl h1), at1 _ _ _, ?_⟩))) scNext.nd)
  refine l_cons (s_setL (e_addI (e_var 1 rfl (e_int ⟨i, 1, rfl, rfl, e_var 0 rfl (e_int ⟨p, _, 1, 1, rfl, rfl, h1, rfl, ?_⟩)⟩))))
  -- cell = index * 1087 + 73
  refine l_cons (s_set 2 (e_addI (e_mulI (e_var 1 rfl (e_int ⟨i, 1087, rfl, rfl, .inr (by decide), e_int ⟨_, 73, rfl, rfl, ?_⟩⟩)))) scNext.nd)
  have g1 : (upd H p (.lst [.ref L, .int (i + 1), .int r])) p = some (.lst [.ref L, .int (i + 1), .int r]) := upd_same
  have g2 : (upd H p (.lst [.ref L, .int (i + 1), .int r])) L = some (.lst (ns.map V.int)) := by rw [upd_ne h6]; exact h2
  have hb : But p H (upd H p (.lst [.ref L, .int (i + 1), .int r])) := But.upd
  show WL _ _ _ [some (.ref p), some (.int i), some (.int (i * 1087 + 73)), none, none, none] (upd H p (.lst [.ref L, .int (i + 1), .int r]))
  generalize i * 1087 + 73 = cell0
  generalize (upd H p (.lst [.ref L, .int (i + 1), .int r])) = H1 at g1 g2 hb
  have hi64 : -(2 ^ 64) < i ∧ i < 2 ^ 64 := ⟨by omega, by omega⟩
  -- if pen[0] != []: cell = pen[0][int(index) % len(pen[0])]
  refine l_cons (WS.cut (P := fun σ H2 => ∃ cell : Int, σ = [some (.ref p), some (.int i), some (.int cell), none, none, none] ∧ Same H1 H2) (s_if (t_neD hr.units (e_ixL (e_var 0 rfl (e_int ⟨p, _, 0, _, rfl, rfl, .inl (.inl g1), at0 _ _ _, e_lst (a_nil ⟨Nat.zero_le _, fun c hc => ?_⟩)⟩))))) ?_)
  · have s1 : Same H1 (upd H1 c (.lst [])) := same_new hc
    refine ⟨.list (ns.map PyData.int), .list [], .lst (.inl (.inl (s1 _ _ g2))) (dp_int ns), .lst (.inl (.inl upd_same)) .nil, shaped_ints ns, rfl, fun e => ?_, fun _ => l_nil ⟨cell0, rfl, s1⟩⟩
    have hpos : 0 < ns.length := by
      cases ns with
      | nil => cases e
      | cons x xs => exact Nat.succ_pos _
    refine l_one (s_set 2 (e_ixL (e_ixL (e_var 0 rfl (e_int ⟨p, _, 0, _, rfl, rfl, .inl (.inl (s1 _ _ g1)), at0 _ _ _, e_modI (e_intI G.int (e_var 1 rfl (.inl ⟨i, rfl, e_len G.len (e_ixL (e_var 0 rfl (e_int ⟨p, _, 0, _, rfl, rfl, .inl (.inl (s1 _ _ g1)), at0 _ _ _, L, _, rfl, .inl (.inl (.inl (s1 _ _ g2))), i, _, rfl, rfl, ?_, ?_⟩)))⟩)))⟩)))) scNext.nd)
    · rw [List.length_map]
      omega
    · have e1 : i % ((ns.map V.int).length : Int) = ((i % (ns.length : Int)).toNat : Nat) := by
        rw [List.length_map]
        have := Int.emod_nonneg i (show (ns.length : Int) ≠ 0 by omega)
        omega
      have e2 : (i % (ns.length : Int)).toNat < ns.length := by
        have := Int.emod_lt_of_pos i (show (0 : Int) < (ns.length : Int) by omega)
        have := Int.emod_nonneg i (show (ns.length : Int) ≠ 0 by omega)
        omega
      refine ⟨L, ns.map V.int, _, .int (ns[(i % (ns.length : Int)).toNat]), rfl, rfl, .inl (.inl (s1 _ _ g2)), ?_, ⟨_, rfl, s1⟩⟩
      rw [e1]
      exact atI_nat (by rw [List.getElem?_map, List.getElem?_eq_getElem e2]; rfl)
  rintro σ H2 ⟨cell, rfl, s2⟩
  have k1 := s2 _ _ g1
  have k2 := s2 _ _ g2
  have fin : ∀ (z : Int) H3, Same H2 H3 → Q (.int z) H3 := fun z H3 s3 => q z H3 (hb.trans (But.of (s2.trans s3))) ⟨ns, i + 1, r, s3 _ _ k1, s3 _ _ k2, h3, by omega, by omega, h6⟩
  -- if index < len(pen[0]) and cell >= 10 ** 18: return cell
  refine l_cons (WS.cut (P := fun σ H3 => σ = [some (.ref p), some (.int i), some (.int cell), none, none, none] ∧ H3 = H2) (s_if (t_w (w_and (t_lt (e_var 1 rfl (e_len G.len (e_ixL (e_var 0 rfl (e_int ⟨p, _, 0, _, rfl, rfl, .inl (.inl k1), at0 _ _ _, L, _, rfl, .inl (.inl (.inl k2)), i, _, rfl, rfl, fun _ => w_and1 (t_ge (e_var 2 rfl (e_op op_pow (e_int (e_int ⟨10, 18, rfl, rfl, ⟨by decide, by decide, by decide⟩, cell, _, rfl, rfl, ?_⟩))))), fun _ => ?_⟩))))))))) ?_)
  case refine_2 => exact ⟨fun e => Bool.noConfusion e, fun _ => l_nil ⟨rfl, rfl⟩⟩
  case refine_1 => exact ⟨fun _ => l_one (s_ret (e_var 2 rfl (fin _ _ (Same.refl _)))), fun _ => l_nil ⟨rfl, rfl⟩⟩
  rintro σ H3 ⟨rfl, rfl⟩
  refine l_cons (s_set 3 (e_modI (e_intI G.int (e_addI (e_addI (e_modI (e_intI G.int (e_var 2 rfl (.inl ⟨cell, rfl, e_int ⟨_, 2147483587, rfl, rfl, by decide, e_mulI (e_var 1 rfl (e_int ⟨i, 30133, rfl, rfl, .inr (by decide), _, _, rfl, rfl, e_int ⟨_, 101, rfl, rfl, .inl ⟨_, rfl, e_int ⟨_, 2147483587, rfl, rfl, by decide, ?_⟩⟩⟩⟩))⟩⟩)))))))) scNext.nd)
  generalize hx : (cell % 2147483587 + i * 30133 + 101) % 2147483587 = x
  have x0 : 0 ≤ x := by rw [← hx]; exact Int.emod_nonneg _ (by decide)
  have x1 : x < 2147483587 := by rw [← hx]; exact Int.emod_lt_of_pos _ (by decide)
  refine l_cons (s_set 4 (e_modI (e_intI G.int (e_addI (e_addI (e_mulI (e_var 3 rfl (e_var 3 rfl ⟨x, x, rfl, rfl, .inl ⟨by omega, by omega⟩, e_mulI (e_var 1 rfl (e_int ⟨i, 70111, rfl, rfl, .inr (by decide), _, _, rfl, rfl, e_int ⟨_, 73, rfl, rfl, .inl ⟨_, rfl, e_int ⟨_, 2147483563, rfl, rfl, by decide, ?_⟩⟩⟩⟩))⟩))))))) scNext.nd)
  generalize hy : (x * x + i * 70111 + 73) % 2147483563 = y
  have y0 : 0 ≤ y := by rw [← hy]; exact Int.emod_nonneg _ (by decide)
  have y1 : y < 2147483563 := by rw [← hy]; exact Int.emod_lt_of_pos _ (by decide)
  refine l_cons (s_set 5 (e_modI (e_intI G.int (e_addI (e_addI (e_mulI (e_var 4 rfl (e_var 4 rfl ⟨y, y, rfl, rfl, .inl ⟨by omega, by omega⟩, e_var 3 rfl ⟨_, x, rfl, rfl, e_mulI (e_mulI (e_var 1 rfl (e_var 1 rfl ⟨i, i, rfl, rfl, .inl hi64, e_int ⟨_, 47, rfl, rfl, .inr (by decide), _, _, rfl, rfl, .inl ⟨_, rfl, e_int ⟨_, 2147483549, rfl, rfl, by decide, ?_⟩⟩⟩⟩)))⟩⟩))))))) scNext.nd)
  generalize hz : (y * y + x + i * i * 47) % 2147483549 = z
  refine l_one (s_ret (e_addI (e_mulI (e_addI (e_mulI (e_var 5 rfl (e_int ⟨z, 2147483587, rfl, rfl, .inr (by decide), e_var 4 rfl ⟨_, y, rfl, rfl, e_int ⟨_, 2147483563, rfl, rfl, .inr (by decide), e_var 3 rfl ⟨_, x, rfl, rfl, ?_⟩⟩⟩⟩)))))))
  exact fin _ _ (Same.refl _)
theorem scDraw : FnScope ["_law_pen_here", "_law_under", "_law_digit"] ["_law_pen_here", "_law_under"] (defScope sDraw) := ⟨rfl, rfl, rfl, by decide +kernel, rfl, by decide +kernel, by decide +kernel⟩
theorem ok_draw {f : Addr} {fd : FuncData} (F : Fun K "_law_draw" "_law_draw" sDraw f fd) (G : Bl mg) (N : CalN P w K mg base 1 "_law_next" spNext) : FnOk P w K mg base CX0 2 f fd ["_law_pen_here", "_law_under"] spDraw := by
  refine Fun.okW F scDraw (fun vs H Q E h => by obtain ⟨a, b, n, u, rfl, _⟩ := h; rfl) (fun cdv B out s H vs Q E hr h => ?_)
  obtain ⟨p, L, n, u, rfl, Pn, hn, u0, u1, q⟩ := h
  obtain ⟨ns, i, r, h1, h2, h3, h4, h5, h6⟩ := id Pn
  -- if pen[2] < under: pen[2] = next(pen)
  refine l_cons (WS.cut (P := fun σ H2 => σ = [some (.ref p), some (.int u), none] ∧ Pen H2 p L (n + 1) ∧ But p H H2) (s_if (t_lt (e_ixL (e_var 0 rfl (e_int ⟨p, _, 2, _, rfl, rfl, .inl (.inl h1), at2 _ _ _, e_var 1 rfl ⟨r, u, rfl, rfl, fun _ => ?_, fun _ => l_nil ⟨rfl, Pn.mono (Nat.le_succ _), But.refl _ _⟩⟩⟩))))) ?_)
  · refine l_one (s_setL (e_c N hr (by decide) (a_cons (e_var 0 rfl (a_nil ⟨p, L, n, rfl, Pn, hn, fun z H2 b2 P2 => ?_⟩)))))
    obtain ⟨ns', i', r', g1, g2, g3, g4, g5, g6⟩ := P2
    refine e_var 0 rfl (e_int ⟨p, _, 2, 2, rfl, rfl, g1, rfl, rfl, ⟨ns', i', z, upd_same, by rw [upd_ne g6]; exact g2, g3, g4, g5, g6⟩, b2.trans But.upd⟩)
  rintro σ H2 ⟨rfl, P2, b2⟩
  obtain ⟨ns', i', r', g1, g2, g3, g4, g5, g6⟩ := P2
  refine l_cons (s_set 2 (e_modI (e_intI G.int (e_ixL (e_var 0 rfl (e_int ⟨p, _, 2, _, rfl, rfl, .inl (.inl g1), at2 _ _ _, .inl ⟨r', rfl, e_var 1 rfl ⟨r', u, rfl, rfl, u0, ?_⟩⟩⟩))))) scDraw.nd)
  refine l_cons (s_setL (e_divI (e_ixL (e_var 0 rfl (e_int ⟨p, _, 2, _, rfl, rfl, .inl (.inl g1), at2 _ _ _, e_var 1 rfl ⟨r', u, rfl, rfl, ⟨u0, u1⟩, e_var 0 rfl (e_int ⟨p, _, 2, 2, rfl, rfl, g1, rfl, ?_⟩)⟩⟩)))))
  have e0 := Int.emod_nonneg r' (show u ≠ 0 by omega)
  have e1 := Int.emod_lt_of_pos r' u0
  refine l_one (s_ret (e_var 2 rfl ?_))
  have en : r' % u = ((r' % u).toNat : Nat) := by omega
  show Q (.int (r' % u)) _
  rw [en]
  exact q _ _ (b2.trans But.upd) ⟨ns', i', r' / u, upd_same, by rw [upd_ne g6]; exact g2, g3, g4, g5, g6⟩ (by omega)
end
end K02

namespace My
open PySem PySem.Spec PyProof.Rows L2
/-! ### reading, as functions of what is left -/
abbrev Cs := List Nat
abbrev cs (z : Str) : Cs := z.cps.toList
def mkS (l : Cs) : Str := ⟨l.toArray⟩
theorem mkS_cs (z : Str) : mkS (cs z) = z := by cases z; rfl
theorem cs_mkS (l : Cs) : cs (mkS l) = l := by show (l.toArray).toList = l; simp
theorem cs_cat (a b : Str) : cs (a ++ b) = cs a ++ cs b := by show (a.cps ++ b.cps).toList = _; simp
/-- what is left behind a sign -/
def tk (s : Str) (r : Cs) : Option Cs := if (cs s).isPrefixOf r then some (r.drop (cs s).length) else none
def wordOf (r : Cs) : Cs := (r.take 9).takeWhile lowC
def pName (r : Cs) : Option (PyData × Cs) := if namD (.str (mkS (wordOf r))) then some (.str (mkS (wordOf r)), r.drop (wordOf r).length) else none
def pVal (r : Cs) : Option (PyData × Cs) := (tk "'" r).bind fun r1 => if valD (.str (mkS (wordOf r1))) then (tk "'" (r1.drop (wordOf r1).length)).map fun r2 => (.str (mkS (wordOf r1)), r2) else none
def pDot (r : Cs) : Option ((PyData × PyData) × Cs) := (pName r).bind fun x => match tk "." x.2 with
  | some r2 => (pName r2).map fun y => ((x.1, y.1), y.2)
  | none => some ((.none, x.1), x.2)
def pMore (p : Cs → Option (PyData × Cs)) (sep : Str) : Nat → Cs → Option (List PyData × Cs)
  | n, r => match tk sep r with
    | none => some ([], r)
    | some r1 => match n with
      | 0 => none
      | n + 1 => (p r1).bind fun x => (pMore p sep n x.2).map fun y => (x.1 :: y.1, y.2)
def pList (p : Cs → Option (PyData × Cs)) (sep : Str) (most : Nat) (r : Cs) : Option (List PyData × Cs) := (p r).bind fun x => (pMore p sep (most - 1) x.2).map fun y => (x.1 :: y.1, y.2)
def pTerm : Nat → Cs → Option (PyData × Cs)
  | k, r => if (tk "'" r).isSome then pVal r else (pDot r).bind fun x => match tk "(" x.2 with
    | none => some (.tuple [x.1.1, x.1.2], x.2)
    | some r2 => match k with
      | 0 => none
      | k + 1 => (pTerm k r2).bind fun t1 => match tk ", " t1.2 with
        | some r4 => (pTerm k r4).bind fun t2 => (tk ")" t2.2).map fun r6 => (.tuple [.str "call", x.1.1, x.1.2, .tuple [t1.1, t2.1]], r6)
        | none => (tk ")" t1.2).map fun r6 => (.tuple [.str "call", x.1.1, x.1.2, .tuple [t1.1]], r6)
def pTold1 (r : Cs) : Option (PyData × Cs) := (pTerm 3 r).bind fun x => if colD x.1 then (match tk " as " x.2 with
    | some r2 => (pName r2).map fun y => (.tuple [.str "column", x.1, y.1], y.2)
    | none => some (.tuple [.str "column", x.1, at' x.1 1], x.2))
  else (tk " as " x.2).bind fun r2 => (pName r2).map fun y => (.tuple [.str "term", x.1, y.1], y.2)
def pTold (r : Cs) : Option (PyData × Cs) := if (tk "'" r).isSome then pTold1 r else (pName r).bind fun x => match tk ".*" x.2 with
  | some r2 => some (.tuple [.str "star", x.1], r2)
  | none => pTold1 r
def pSource (r : Cs) : Option (PyData × Cs) := (pDot r).bind fun x => if (tk " where " x.2).isSome then some (.tuple [x.1.1, x.1.2, x.1.2], x.2) else match tk " " x.2 with
  | none => some (.tuple [x.1.1, x.1.2, x.1.2], x.2)
  | some r2 => (pName r2).map fun y => (.tuple [x.1.1, x.1.2, y.1], y.2)
def pCond (r : Cs) : Option (PyData × Cs) := (pDot r).bind fun x => match tk " = " x.2 with
  | some r2 => (pDot r2).map fun y => (.tuple [.str "equal", .tuple [x.1.1, x.1.2], .tuple [y.1.1, y.1.2]], y.2)
  | none => (tk " in (" x.2).bind fun r2 => (pList pVal ", " 8 r2).bind fun y => (tk ")" y.2).map fun r4 => (.tuple [.str "in", .tuple [x.1.1, x.1.2], .tuple y.1], r4)
def pSel (r : Cs) : Bool × Cs := match tk "distinct " r with
  | some r2 => (true, r2)
  | none => (false, r)
def pTail (b : Bool) (ts : List PyData) (r : Cs) : Option (PyData × Cs) := (tk " from " r).bind fun r4 => (pList pSource ", " 4 r4).bind fun s => match tk " where " s.2 with
  | some r6 => (pList pCond " and " 8 r6).map fun c => (.tuple [.bool b, .tuple ts, .tuple s.1, .tuple c.1], c.2)
  | none => some (.tuple [.bool b, .tuple ts, .tuple s.1, .tuple []], s.2)
def pStmt (r : Cs) : Option (PyData × Cs) := (tk "select " r).bind fun r1 => (pList pTold ", " 8 (pSel r1).2).bind fun t => pTail (pSel r1).1 t.1 t.2
/-! ### what stands behind -/
/-- no letter stands next -/
def Stop (r : Cs) : Prop := ∀ c, r.head? = some c → lowC c = false
/-- nothing, or a blank, a comma, a closing one -/
def StopT (r : Cs) : Prop := ∀ c, r.head? = some c → c = 32 ∨ c = 44 ∨ c = 41
theorem StopT.stop {r : Cs} (h : StopT r) : Stop r := fun c e => by rcases h c e with rfl | rfl | rfl <;> decide +kernel
theorem tk_cat (s : Str) (r : Cs) : tk s (cs s ++ r) = some r := by
  unfold tk
  rw [if_pos (List.isPrefixOf_iff_prefix.mpr (List.prefix_append _ _)), List.drop_left]
theorem tk_none1 {s : Str} {c : Nat} {t : Cs} (e : cs s = c :: t) {r : Cs} (h : ∀ d, r.head? = some d → d ≠ c) : tk s r = none := by
  unfold tk
  rw [if_neg]
  intro z
  rw [e] at z
  cases r with
  | nil => exact Bool.noConfusion z
  | cons d r =>
    have : (c == d && t.isPrefixOf r) = true := z
    rw [Bool.and_eq_true] at this
    exact h d rfl (eq_of_beq this.1).symm
theorem tk_none2 {s : Str} {a b c d : Nat} {t u : Cs} (e : cs s = a :: b :: t) (h : b ≠ d) : tk s (c :: d :: u) = none := by
  unfold tk
  rw [if_neg]
  intro z
  rw [e] at z
  have : (a == c && (b == d && t.isPrefixOf u)) = true := z
  rw [Bool.and_eq_true, Bool.and_eq_true] at this
  exact h (eq_of_beq this.2.1)
theorem takeWhile_stop {l r : Cs} (hl : l.all lowC = true) (hr : Stop r) : (l ++ r).takeWhile lowC = l := by
  rw [List.takeWhile_append_of_pos fun a ha => List.all_eq_true.mp hl a ha]
  cases r with
  | nil => simp
  | cons c r => rw [List.takeWhile_cons_of_neg (by rw [hr c rfl]; exact Bool.false_ne_true), List.append_nil]
theorem wordOf_cat {l r : Cs} (hl : l.all lowC = true) (h8 : l.length ≤ 8) (hr : Stop r) : wordOf (l ++ r) = l := by
  unfold wordOf
  rw [List.take_append, List.take_of_length_le (by omega)]
  refine takeWhile_stop hl fun c e => hr c ?_
  cases r with
  | nil => simp at e
  | cons d r =>
    have : 9 - l.length = (8 - l.length) + 1 := by omega
    rw [this, List.take_succ_cons] at e
    exact e
theorem val_cs {z : Str} (h : valS z = true) : (cs z).all lowC = true ∧ (cs z).length ≤ 8 ∧ 1 ≤ (cs z).length := by
  have h' : (decide (1 ≤ z.length) && decide (z.length ≤ 8) && z.cps.toList.all letB) = true := h
  rw [Bool.and_eq_true, Bool.and_eq_true] at h'
  exact ⟨h'.2, of_decide_eq_true h'.1.2, of_decide_eq_true h'.1.1⟩
theorem namE {d : PyData} (h : namD d = true) : ∃ z, d = .str z ∧ valS z = true ∧ z ∉ resv := by
  cases d with
  | str z =>
    have h' : (valS z && !decide (z ∈ resv)) = true := h
    rw [Bool.and_eq_true] at h'
    exact ⟨z, rfl, h'.1, by simpa using h'.2⟩
  | _ => cases h
theorem pName_cat {z : Str} {r : Cs} (h : namD (.str z) = true) (hr : Stop r) : pName (cs z ++ r) = some (.str z, r) := by
  obtain ⟨_, e, hv, _⟩ := namE h
  cases e
  obtain ⟨h1, h2, _⟩ := val_cs hv
  have e := wordOf_cat h1 h2 hr
  unfold pName
  rw [e, mkS_cs, if_pos h, List.drop_left]
theorem pVal_cat {z : Str} {r : Cs} (h : valS z = true) : pVal (cs ("'" : Str) ++ (cs z ++ (cs ("'" : Str) ++ r))) = some (.str z, r) := by
  obtain ⟨h1, h2, _⟩ := val_cs h
  have hr : Stop (cs ("'" : Str) ++ r) := fun c e => by cases e; decide +kernel
  have e := wordOf_cat h1 h2 hr
  unfold pVal
  rw [tk_cat]
  show (if valD (.str (mkS (wordOf (cs z ++ (cs ("'" : Str) ++ r))))) then (tk "'" ((cs z ++ (cs ("'" : Str) ++ r)).drop (wordOf (cs z ++ (cs ("'" : Str) ++ r))).length)).map _ else none) = _
  rw [e, mkS_cs, if_pos (show valD (.str z) = true from h), List.drop_left, tk_cat]
  rfl
end My

namespace My
open PySem PySem.Spec PyProof.Rows L2
/-! ### the texts of statements, as functions of the data -/
def sv : PyData → Str
  | .str z => z
  | _ => Str.empty
def dotT (a b : PyData) : Str := match a with
  | .str l => l ++ ("." : Str) ++ sv b
  | _ => sv b
def quoT (z : Str) : Str := ("'" : Str) ++ z ++ ("'" : Str)
def termT : Nat → PyData → Str
  | _, .str z => quoT z
  | _, .tuple [a, b] => dotT a b
  | k + 1, .tuple [_, s, n, .tuple ts] => dotT s n ++ ("(" : Str) ++ Txt.join (", " : Str) (ts.map (termT k)) ++ (")" : Str)
  | _, _ => Str.empty
def cellT : PyData → Str
  | .tuple [a, b] => dotT a b
  | _ => Str.empty
def toldT : PyData → Str
  | .tuple [_, n] => sv n ++ (".*" : Str)
  | .tuple [_, .tuple [a, b], n] => if sv b = sv n then dotT a b else dotT a b ++ (" as " : Str) ++ sv n
  | .tuple [_, t, n] => termT 3 t ++ (" as " : Str) ++ sv n
  | _ => Str.empty
def srcT : PyData → Str
  | .tuple [s, n, l] => if sv l = sv n then dotT s n else dotT s n ++ (" " : Str) ++ sv l
  | _ => Str.empty
def valsT (ds : List PyData) : Str := ("(" : Str) ++ Txt.join (", " : Str) (ds.map fun d => quoT (sv d)) ++ (")" : Str)
def condT : PyData → Str
  | .tuple [.str z, a, .tuple ds] => if z = "equal" then cellT a ++ (" = " : Str) ++ cellT (.tuple ds) else cellT a ++ (" in " : Str) ++ valsT ds
  | _ => Str.empty
def selT (b : Bool) : Str := if b = true then "select distinct " else "select "
def whereT (cs : List PyData) : Str := if cs.isEmpty = true then Str.empty else (" where " : Str) ++ Txt.join (" and " : Str) (cs.map condT)
def writeT : PyData → Str
  | .tuple [.bool b, .tuple ts, .tuple ss, .tuple cs] => selT b ++ Txt.join (", " : Str) (ts.map toldT) ++ ((" from " : Str) ++ Txt.join (", " : Str) (ss.map srcT)) ++ whereT cs
  | _ => Str.empty
/-! ### reading a text gives back what was written -/
theorem cs_join1 (s a : Str) : cs (Txt.join s [a]) = cs a := by
  rfl
theorem fold_cs (s : Str) : ∀ (l : List Str) (acc : Array Nat), (l.foldl (fun acc p => acc ++ s.cps ++ p.cps) acc).toList = acc.toList ++ (l.map fun p => cs s ++ cs p).flatten
  | [], acc => by simp
  | p :: l, acc => by
    show (l.foldl (fun acc p => acc ++ s.cps ++ p.cps) (acc ++ s.cps ++ p.cps)).toList = _
    rw [fold_cs s l]
    simp [List.append_assoc]
theorem cs_join (s a : Str) (l : List Str) : cs (Txt.join s (a :: l)) = cs a ++ (l.map fun p => cs s ++ cs p).flatten := fold_cs s l a.cps
theorem name_head {z : Str} (h : valS z = true) : ∃ c t, cs z = c :: t ∧ lowC c = true := by
  obtain ⟨h1, _, h3⟩ := val_cs h
  cases e : cs z with
  | nil => rw [e] at h3; exact absurd h3 (by decide)
  | cons c t => rw [e] at h1; exact ⟨c, t, rfl, List.all_eq_true.mp h1 c (List.mem_cons_self ..)⟩
theorem tk_name {s : Str} {c : Nat} {t r : Cs} {z : Str} (e : cs s = c :: t) (hc : lowC c = false) (h : valS z = true) : tk s (cs z ++ r) = none := by
  obtain ⟨d, u, e2, hd⟩ := name_head h
  refine tk_none1 e fun d' e3 => ?_
  rw [e2] at e3
  cases e3
  intro z; rw [z, hc] at hd; exact Bool.noConfusion hd
theorem nnE {d : PyData} (h : nnD d = true) : d = .none ∨ namD d = true := by
  have h' : (isNone d || namD d) = true := h
  rw [Bool.or_eq_true] at h'
  rcases h' with h | h
  · cases d <;> first | exact .inl rfl | cases h
  · exact .inr h
/-- no letter and no dot stand next -/
def StopD (r : Cs) : Prop := ∀ c, r.head? = some c → lowC c = false ∧ c ≠ 46
theorem StopT.d {r : Cs} (h : StopT r) : StopD r := fun c e => by rcases h c e with rfl | rfl | rfl <;> exact ⟨by decide +kernel, by decide⟩
theorem StopD.stop {r : Cs} (h : StopD r) : Stop r := fun c e => (h c e).1
theorem pDot_cat {a b : PyData} {r : Cs} (ha : nnD a = true) (hb : namD b = true) (hr : StopD r) : pDot (cs (dotT a b) ++ r) = some ((a, b), r) := by
  obtain ⟨z, rfl, hz, _⟩ := namE hb
  rcases nnE ha with rfl | ha
  · show pDot (cs z ++ r) = _
    unfold pDot
    rw [pName_cat hb hr.stop]
    simp only [Option.bind_some, tk_none1 (s := ".") (c := 46) (t := []) (by decide +kernel) fun c e => (hr c e).2]
  · obtain ⟨y, rfl, hy, _⟩ := namE ha
    have e : cs (dotT (.str y) (.str z)) ++ r = cs y ++ (cs ("." : Str) ++ (cs z ++ r)) := by
      show cs (y ++ ("." : Str) ++ z) ++ r = _
      rw [cs_cat, cs_cat, List.append_assoc, List.append_assoc]
    rw [e]
    unfold pDot
    rw [pName_cat ha (fun c e => by cases e; decide +kernel)]
    simp only [Option.bind_some, tk_cat, pName_cat hb hr.stop, Option.map_some]
theorem tk_dot {s : Str} {c : Nat} {t r : Cs} {a b : PyData} (e : cs s = c :: t) (hc : lowC c = false) (ha : nnD a = true) (hb : namD b = true) : tk s (cs (dotT a b) ++ r) = none := by
  obtain ⟨z, rfl, hz, _⟩ := namE hb
  rcases nnE ha with rfl | ha
  · exact tk_name e hc hz
  · obtain ⟨y, rfl, hy, _⟩ := namE ha
    have e2 : cs (dotT (.str y) (.str z)) ++ r = cs y ++ (cs ("." : Str) ++ (cs z ++ r)) := by
      show cs (y ++ ("." : Str) ++ z) ++ r = _
      rw [cs_cat, cs_cat, List.append_assoc, List.append_assoc]
    rw [e2]
    exact tk_name e hc hy
theorem colE {d : PyData} (h : colD d = true) : ∃ a b, d = .tuple [a, b] ∧ nnD a = true ∧ namD b = true := by
  have h' : (pairD d && (nnD (at' d 0) && namD (at' d 1))) = true := h
  rw [Bool.and_eq_true, Bool.and_eq_true] at h'
  obtain ⟨h1, h2, h3⟩ := h'
  obtain ⟨ht, hl⟩ := tupN_tup h1
  cases d <;> try cases ht
  rename_i ds
  have hl' : ds.length = 2 := hl
  match ds, hl' with
  | [a, b], _ => exact ⟨a, b, rfl, h2, h3⟩
theorem eqSE {d : PyData} {z : Str} (h : eqS d z = true) : d = .str z := by
  cases d with
  | str y => have : y = z := by simpa [eqS] using h
             rw [this]
  | _ => cases h
theorem tupE {lo hi : Int} {f : PyData → Bool} {d : PyData} (h : tupD lo hi f d = true) : ∃ ds, d = .tuple ds ∧ lo ≤ ds.length ∧ (ds.length : Int) ≤ hi ∧ ∀ x ∈ ds, f x = true := by
  cases d with
  | tuple ds =>
    have h' : (decide (lo ≤ ds.length) && decide ((ds.length : Int) ≤ hi) && ds.all f) = true := h
    rw [Bool.and_eq_true, Bool.and_eq_true] at h'
    exact ⟨ds, rfl, of_decide_eq_true h'.1.1, of_decide_eq_true h'.1.2, List.all_eq_true.mp h'.2⟩
  | _ => cases h
theorem callE {k : Nat} {d : PyData} (h : callD k d = true) : ∃ j s n ts, k = j + 1 ∧ d = .tuple [.str "call", s, n, .tuple ts] ∧ nnD s = true ∧ namD n = true ∧ 1 ≤ ts.length ∧ ts.length ≤ 2 ∧ ∀ t ∈ ts, (colD t || valD t || callD j t) = true := by
  cases k with
  | zero => cases h
  | succ j =>
    have h' : (tupN d 4 && (eqS (at' d 0) "call" && nnD (at' d 1) && namD (at' d 2)) && tupD 1 2 (fun x => colD x || valD x || callD j x) (at' d 3)) = true := h
    simp only [Bool.and_eq_true] at h'
    obtain ⟨⟨h1, ⟨h2, h3⟩, h4⟩, h5⟩ := h'
    obtain ⟨ht, hl⟩ := tupN_tup h1
    cases d <;> try cases ht
    rename_i ds
    have hl' : ds.length = 4 := hl
    match ds, hl' with
    | [a, b, c, e], _ =>
      have e1 : a = .str "call" := eqSE h2
      obtain ⟨ts, e2, l1, l2, l3⟩ := tupE (d := e) h5
      subst e1 e2
      exact ⟨j, b, c, ts, rfl, rfl, h3, h4, by omega, by omega, l3⟩
theorem valE {d : PyData} (h : valD d = true) : ∃ z, d = .str z ∧ valS z = true := by
  cases d with
  | str z => exact ⟨z, rfl, h⟩
  | _ => cases h
theorem pTerm_col {k : Nat} {a b : PyData} {r : Cs} (ha : nnD a = true) (hb : namD b = true) (hr : StopT r) : pTerm k (cs (dotT a b) ++ r) = some (.tuple [a, b], r) := by
  have e1 : tk "'" (cs (dotT a b) ++ r) = none := tk_dot (s := "'") (c := 39) (t := []) (by decide +kernel) (by decide +kernel) ha hb
  have e2 : tk "(" r = none := tk_none1 (s := "(") (c := 40) (t := []) (by decide +kernel) fun c e => by rcases hr c e with rfl | rfl | rfl <;> decide
  unfold pTerm
  rw [e1, pDot_cat ha hb hr.d]
  simp only [Option.isSome_none, Bool.false_eq_true, if_false, Option.bind_some, e2]
theorem pTerm_val {k : Nat} {z : Str} {r : Cs} (h : valS z = true) : pTerm k (cs (quoT z) ++ r) = some (.str z, r) := by
  have e : cs (quoT z) ++ r = cs ("'" : Str) ++ (cs z ++ (cs ("'" : Str) ++ r)) := by
    show cs (("'" : Str) ++ z ++ ("'" : Str)) ++ r = _
    rw [cs_cat, cs_cat, List.append_assoc, List.append_assoc]
  rw [e]
  unfold pTerm
  rw [if_pos (by rw [tk_cat]; rfl)]
  exact pVal_cat h
theorem pTerm_cat : ∀ (k : Nat) {d : PyData}, (colD d || valD d || callD k d) = true → ∀ {r : Cs}, StopT r → pTerm k (cs (termT k d) ++ r) = some (d, r)
  | k, d, h, r, hr => by
    rw [Bool.or_eq_true, Bool.or_eq_true] at h
    rcases h with (h | h) | h
    · obtain ⟨a, b, rfl, ha, hb⟩ := colE h
      have e : termT k (.tuple [a, b]) = dotT a b := by cases k <;> rfl
      rw [e]
      exact pTerm_col ha hb hr
    · obtain ⟨z, rfl, hz⟩ := valE h
      have e : termT k (.str z) = quoT z := by cases k <;> rfl
      rw [e]
      exact pTerm_val hz
    · obtain ⟨j, s, n, ts, rfl, rfl, hs, hn, l1, l2, hts⟩ := callE h
      have e : cs (termT (j + 1) (.tuple [.str "call", s, n, .tuple ts])) ++ r = cs (dotT s n) ++ (cs ("(" : Str) ++ (cs (Txt.join (", " : Str) (ts.map (termT j))) ++ (cs (")" : Str) ++ r))) := by
        show cs (dotT s n ++ ("(" : Str) ++ Txt.join (", " : Str) (ts.map (termT j)) ++ (")" : Str)) ++ r = _
        rw [cs_cat, cs_cat, cs_cat, List.append_assoc, List.append_assoc, List.append_assoc]
      rw [e]
      have e1 : tk "'" (cs (dotT s n) ++ (cs ("(" : Str) ++ (cs (Txt.join (", " : Str) (ts.map (termT j))) ++ (cs (")" : Str) ++ r)))) = none := tk_dot (s := "'") (c := 39) (t := []) (by decide +kernel) (by decide +kernel) hs hn
      unfold pTerm
      rw [e1, pDot_cat hs hn (fun c e => by cases e; exact ⟨by decide +kernel, by decide⟩)]
      simp only [Option.isSome_none, Bool.false_eq_true, if_false, Option.bind_some, tk_cat]
      have st : StopT (cs (")" : Str) ++ r) := fun c e => by cases e; exact .inr (.inr rfl)
      have tn : tk ", " (cs (")" : Str) ++ r) = none := tk_none1 (s := ", ") (c := 44) (t := [32]) (by decide +kernel) fun c e => by cases e; decide
      match ts, l1, l2 with
      | [t1], _, _ =>
        have i1 := pTerm_cat j (hts t1 (List.mem_cons_self ..)) st
        simp only [List.map_cons, List.map_nil]
        rw [cs_join1, i1]
        simp only [Option.bind_some, tn, tk_cat, Option.map_some]
      | [t1, t2], _, _ =>
        have e2 : cs (Txt.join (", " : Str) [termT j t1, termT j t2]) ++ (cs (")" : Str) ++ r) = cs (termT j t1) ++ (cs (", " : Str) ++ (cs (termT j t2) ++ (cs (")" : Str) ++ r))) := by
          rw [cs_join]
          simp [List.append_assoc]
        have i1 := pTerm_cat j (hts t1 (List.mem_cons_self ..)) (r := cs (", " : Str) ++ (cs (termT j t2) ++ (cs (")" : Str) ++ r))) (fun c e => by cases e; exact .inr (.inl rfl))
        have i2 := pTerm_cat j (hts t2 (List.mem_cons_of_mem _ (List.mem_cons_self ..))) st
        simp only [List.map_cons, List.map_nil]
        rw [e2, i1]
        simp only [Option.bind_some, tk_cat, i2, Option.map_some]
end My

namespace My
open PySem PySem.Spec PyProof.Rows L2
theorem cat3 (a b c : Str) (r : Cs) : cs (a ++ b ++ c) ++ r = cs a ++ (cs b ++ (cs c ++ r)) := by rw [cs_cat, cs_cat, List.append_assoc, List.append_assoc]
theorem cat2 (a b : Str) (r : Cs) : cs (a ++ b) ++ r = cs a ++ (cs b ++ r) := by rw [cs_cat, List.append_assoc]
theorem at2 {d : PyData} {n : Nat} (h : tupN d n = true) : ∃ ds, d = .tuple ds ∧ ds.length = n := by
  obtain ⟨ht, hl⟩ := tupN_tup h
  cases d <;> try cases ht
  exact ⟨_, rfl, hl⟩
theorem toldE {d : PyData} (h : toldD d = true) : (∃ n, d = .tuple [.str "star", n] ∧ namD n = true) ∨ (∃ c n, d = .tuple [.str "column", c, n] ∧ colD c = true ∧ namD n = true) ∨
    ∃ t n, d = .tuple [.str "term", t, n] ∧ (valD t = true ∨ callD 3 t = true) ∧ namD n = true := by
  have h' : (if pairD d then eqS (at' d 0) "star" && namD (at' d 1) else tupN d 3 && namD (at' d 2) && (if eqS (at' d 0) "column" then colD (at' d 1) else eqS (at' d 0) "term" && (valD (at' d 1) || callD 3 (at' d 1)))) = true := h
  by_cases p : pairD d = true
  · rw [if_pos p, Bool.and_eq_true] at h'
    obtain ⟨ds, rfl, hl⟩ := at2 p
    match ds, hl with
    | [a, b], _ =>
      have e1 : a = .str "star" := eqSE h'.1
      subst e1
      exact .inl ⟨b, rfl, h'.2⟩
  · rw [if_neg p, Bool.and_eq_true, Bool.and_eq_true] at h'
    obtain ⟨⟨h1, h2⟩, h3⟩ := h'
    obtain ⟨ds, rfl, hl⟩ := at2 h1
    match ds, hl with
    | [a, b, c], _ =>
      by_cases q : eqS (at' (.tuple [a, b, c]) 0) "column" = true
      · rw [if_pos q] at h3
        have e1 : a = .str "column" := eqSE q
        subst e1
        exact .inr (.inl ⟨b, c, rfl, h3, h2⟩)
      · rw [if_neg q, Bool.and_eq_true, Bool.or_eq_true] at h3
        have e1 : a = .str "term" := eqSE h3.1
        subst e1
        exact .inr (.inr ⟨b, c, rfl, h3.2, h2⟩)
theorem srcE {d : PyData} (h : srcD d = true) : ∃ s n l, d = .tuple [s, n, l] ∧ nnD s = true ∧ namD n = true ∧ namD l = true := by
  have h' : (tupN d 3 && (nnD (at' d 0) && namD (at' d 1) && namD (at' d 2))) = true := h
  simp only [Bool.and_eq_true] at h'
  obtain ⟨h1, ⟨h2, h3⟩, h4⟩ := h'
  obtain ⟨ds, rfl, hl⟩ := at2 h1
  match ds, hl with
  | [a, b, c], _ => exact ⟨a, b, c, rfl, h2, h3, h4⟩
theorem condE {d : PyData} (h : condD d = true) : (∃ a b, d = .tuple [.str "equal", a, b] ∧ colD a = true ∧ colD b = true) ∨ ∃ a ds, d = .tuple [.str "in", a, .tuple ds] ∧ colD a = true ∧ 1 ≤ ds.length ∧ ds.length ≤ 8 ∧ ∀ x ∈ ds, valD x = true := by
  have h' : (tupN d 3 && colD (at' d 1) && (if eqS (at' d 0) "equal" then colD (at' d 2) else eqS (at' d 0) "in" && valsD (at' d 2))) = true := h
  rw [Bool.and_eq_true, Bool.and_eq_true] at h'
  obtain ⟨⟨h1, h2⟩, h3⟩ := h'
  obtain ⟨ds, rfl, hl⟩ := at2 h1
  match ds, hl with
  | [a, b, c], _ =>
    by_cases q : eqS (at' (.tuple [a, b, c]) 0) "equal" = true
    · rw [if_pos q] at h3
      have e1 : a = .str "equal" := eqSE q
      subst e1
      exact .inl ⟨b, c, rfl, h2, h3⟩
    · rw [if_neg q, Bool.and_eq_true] at h3
      have e1 : a = .str "in" := eqSE h3.1
      subst e1
      have h4 : valsD c = true := h3.2
      obtain ⟨ds, rfl⟩ : ∃ ds, c = .tuple ds := by cases c <;> first | exact ⟨_, rfl⟩ | cases h4
      have h5 : (decide (1 ≤ ds.length) && decide (ds.length ≤ 8) && ds.all valD && ascS (ds.map strOf)) = true := h4
      simp only [Bool.and_eq_true, decide_eq_true_eq] at h5
      exact .inr ⟨b, ds, rfl, h2, h5.1.1.1, h5.1.1.2, List.all_eq_true.mp h5.1.2⟩
theorem stE {d : PyData} (h : stD d = true) : ∃ b ts ss cc, d = .tuple [.bool b, .tuple ts, .tuple ss, .tuple cc] ∧ (1 ≤ ts.length ∧ ts.length ≤ 8 ∧ ∀ x ∈ ts, toldD x = true) ∧ (1 ≤ ss.length ∧ ss.length ≤ 4 ∧ ∀ x ∈ ss, srcD x = true) ∧ cc.length ≤ 8 ∧ ∀ x ∈ cc, condD x = true := by
  have h' : (tupN d 4 && (isBoo (at' d 0) && tupD 1 8 toldD (at' d 1) && tupD 1 4 srcD (at' d 2) && decide (labs (at' d 2) 2).Nodup && tupD 0 8 condD (at' d 3))) = true := h
  simp only [Bool.and_eq_true] at h'
  obtain ⟨h1, ⟨⟨⟨h2, h3⟩, h4⟩, _⟩, h5⟩ := h'
  obtain ⟨ds, rfl, hl⟩ := at2 h1
  match ds, hl with
  | [a, b, c, e], _ =>
    have h2' : isBoo a = true := h2
    obtain ⟨ts, e1, l1, l2, l3⟩ := tupE (d := b) h3
    obtain ⟨ss, e2, m1, m2, m3⟩ := tupE (d := c) h4
    obtain ⟨cc, e3, n1, n2, n3⟩ := tupE (d := e) h5
    subst e1 e2 e3
    cases a <;> try cases h2'
    exact ⟨_, ts, ss, cc, rfl, ⟨by omega, by omega, l3⟩, ⟨by omega, by omega, m3⟩, by omega, n3⟩
/-! a list of things -/
theorem pMore_cat {p : Cs → Option (PyData × Cs)} {sep : Str} {T : PyData → Str} {Good : Cs → Prop} (hg : ∀ r, Good (cs sep ++ r)) {r : Cs} (gr : Good r) (hr : tk sep r = none) :
    ∀ (ds : List PyData) (n : Nat), ds.length ≤ n → (∀ d ∈ ds, ∀ r', Good r' → p (cs (T d) ++ r') = some (d, r')) → pMore p sep n ((ds.map fun d => cs sep ++ cs (T d)).flatten ++ r) = some (ds, r)
  | [], n, _, _ => by
    show pMore p sep n r = _
    unfold pMore
    rw [hr]
  | d :: ds, 0, h, _ => absurd h (by simp)
  | d :: ds, n + 1, h, k => by
    have e : ((d :: ds).map fun d => cs sep ++ cs (T d)).flatten ++ r = cs sep ++ (cs (T d) ++ ((ds.map fun d => cs sep ++ cs (T d)).flatten ++ r)) := by
      rw [List.map_cons, List.flatten_cons, List.append_assoc, List.append_assoc]
    rw [e]
    unfold pMore
    rw [tk_cat]
    have g2 : Good ((ds.map fun d => cs sep ++ cs (T d)).flatten ++ r) := by
      cases ds with
      | nil => exact gr
      | cons x ds => rw [List.map_cons, List.flatten_cons, List.append_assoc, List.append_assoc]; exact hg _
    have i1 := k d (List.mem_cons_self ..) _ g2
    have i2 := pMore_cat hg gr hr ds n (by simpa using h) fun x hx => k x (List.mem_cons_of_mem _ hx)
    simp only [i1, Option.bind_some, i2, Option.map_some]
theorem pList_cat {p : Cs → Option (PyData × Cs)} {sep : Str} {T : PyData → Str} {Good : Cs → Prop} (hg : ∀ r, Good (cs sep ++ r)) {r : Cs} (gr : Good r) (hr : tk sep r = none) {ds : List PyData} {n : Nat} (l1 : 1 ≤ ds.length) (l2 : ds.length ≤ n)
    (k : ∀ d ∈ ds, ∀ r', Good r' → p (cs (T d) ++ r') = some (d, r')) : pList p sep n (cs (Txt.join sep (ds.map T)) ++ r) = some (ds, r) := by
  cases ds with
  | nil => exact absurd l1 (by decide)
  | cons d ds =>
    have e : cs (Txt.join sep ((d :: ds).map T)) ++ r = cs (T d) ++ ((ds.map fun d => cs sep ++ cs (T d)).flatten ++ r) := by
      rw [List.map_cons, cs_join, List.map_map, List.append_assoc]
      rfl
    have g2 : Good ((ds.map fun d => cs sep ++ cs (T d)).flatten ++ r) := by
      cases ds with
      | nil => exact gr
      | cons x ds => rw [List.map_cons, List.flatten_cons, List.append_assoc, List.append_assoc]; exact hg _
    rw [e]
    unfold pList
    rw [k d (List.mem_cons_self ..) _ g2]
    have i2 := pMore_cat hg gr hr ds (n - 1) (by have : ds.length + 1 ≤ n := l2; omega) fun x hx => k x (List.mem_cons_of_mem _ hx)
    simp only [Option.bind_some, i2, Option.map_some]
/-! told things -/
def GoodTo (r : Cs) : Prop := StopT r ∧ tk " as " r = none
theorem as_comma (r : Cs) : tk " as " (cs (", " : Str) ++ r) = none := tk_none1 (s := " as ") (c := 32) (t := cs ("as " : Str)) (by decide +kernel) fun c e => by cases e; decide
theorem pTold1_cat {t : PyData} {n : PyData} {r : Cs} (ht : (colD t || valD t || callD 3 t) = true) (hn : namD n = true) (hr : StopT r) (hc : colD t = false) :
    pTold1 (cs (termT 3 t ++ (" as " : Str) ++ sv n) ++ r) = some (.tuple [.str "term", t, n], r) := by
  obtain ⟨z, rfl, _⟩ := namE hn
  rw [cat3]
  unfold pTold1
  rw [pTerm_cat 3 ht (r := cs (" as " : Str) ++ (cs (sv (.str z)) ++ r)) (fun c e => by cases e; exact .inl rfl)]
  simp only [Option.bind_some, hc, Bool.false_eq_true, if_false, tk_cat]
  show (pName (cs z ++ r)).map _ = _
  rw [pName_cat hn hr.stop]
  rfl
theorem not_col_val {t : PyData} (h : valD t = true) : colD t = false := by
  obtain ⟨z, rfl, _⟩ := valE h
  rfl
theorem not_col_call {k : Nat} {t : PyData} (h : callD k t = true) : colD t = false := by
  obtain ⟨j, s, n, ts, rfl, rfl, _⟩ := callE h
  rfl
/-- a told thing that begins as a name does: no star -/
theorem pTold_dot {a b : PyData} {r : Cs} (ha : nnD a = true) (hb : namD b = true) (hr : ∀ c, r.head? = some c → lowC c = false ∧ c ≠ 46) : pTold (cs (dotT a b) ++ r) = pTold1 (cs (dotT a b) ++ r) := by
  have e1 : tk "'" (cs (dotT a b) ++ r) = none := tk_dot (s := "'") (c := 39) (t := []) (by decide +kernel) (by decide +kernel) ha hb
  unfold pTold
  rw [e1]
  simp only [Option.isSome_none, Bool.false_eq_true, if_false]
  obtain ⟨z, rfl, hz, _⟩ := namE hb
  rcases nnE ha with rfl | ha
  · show (pName (cs z ++ r)).bind _ = _
    rw [pName_cat hb fun c e => (hr c e).1]
    have : tk ".*" r = none := tk_none1 (s := ".*") (c := 46) (t := [42]) (by decide +kernel) fun c e => (hr c e).2
    simp only [Option.bind_some, this]
  · obtain ⟨y, rfl, hy, _⟩ := namE ha
    have e2 : cs (dotT (.str y) (.str z)) ++ r = cs y ++ (cs ("." : Str) ++ (cs z ++ r)) := cat3 _ _ _ _
    rw [e2, pName_cat ha (fun c e => by cases e; decide +kernel)]
    obtain ⟨c, u, e3, hc⟩ := name_head hz
    have : tk ".*" (cs ("." : Str) ++ (cs z ++ r)) = none := by
      rw [e3]
      exact tk_none2 (s := ".*") (a := 46) (b := 42) (c := 46) (d := c) (t := []) (u := u ++ r) (by decide +kernel) fun e => by rw [← e] at hc; exact absurd hc (by decide +kernel)
    simp only [Option.bind_some, this]
theorem head_as (r : Cs) : ∀ c, (cs (" as " : Str) ++ r).head? = some c → lowC c = false ∧ c ≠ 46 := fun c e => by cases e; exact ⟨by decide +kernel, by decide⟩
theorem pTold_cat {d : PyData} (h : toldD d = true) {r : Cs} (hr : GoodTo r) : pTold (cs (toldT d) ++ r) = some (d, r) := by
  rcases toldE h with ⟨n, rfl, hn⟩ | ⟨c, n, rfl, hc, hn⟩ | ⟨t, n, rfl, ht, hn⟩
  · obtain ⟨z, rfl, hz, _⟩ := namE hn
    show pTold (cs (z ++ (".*" : Str)) ++ r) = _
    rw [cat2]
    have e1 : tk "'" (cs z ++ (cs (".*" : Str) ++ r)) = none := tk_name (s := "'") (c := 39) (t := []) (by decide +kernel) (by decide +kernel) hz
    unfold pTold
    rw [e1, pName_cat hn (fun c e => by cases e; decide +kernel)]
    simp only [Option.isSome_none, Bool.false_eq_true, if_false, Option.bind_some, tk_cat]
  · obtain ⟨a, b, rfl, ha, hb⟩ := colE hc
    have e0 : toldT (.tuple [.str "column", .tuple [a, b], n]) = if sv b = sv n then dotT a b else dotT a b ++ (" as " : Str) ++ sv n := rfl
    obtain ⟨z, rfl, hz, _⟩ := namE hn
    obtain ⟨y, rfl, hy, _⟩ := namE hb
    rw [e0]
    by_cases e : sv (.str y) = sv (.str z)
    · rw [if_pos e]
      have e' : y = z := e
      subst e'
      rw [pTold_dot ha hb hr.1.d]
      unfold pTold1
      rw [pTerm_col ha hb hr.1]
      simp only [Option.bind_some, hc, if_true, hr.2]
      rfl
    · rw [if_neg e, cat3, pTold_dot ha hb (head_as _)]
      unfold pTold1
      rw [pTerm_col ha hb (r := cs (" as " : Str) ++ (cs (sv (.str z)) ++ r)) (fun c e => by cases e; exact .inl rfl)]
      simp only [Option.bind_some, hc, if_true, tk_cat]
      show (pName (cs z ++ r)).map _ = _
      rw [pName_cat hn hr.1.stop]
      rfl
  · have ht' : (colD t || valD t || callD 3 t) = true := by rcases ht with h | h <;> simp [h]
    have hc : colD t = false := by rcases ht with h | h; exact not_col_val h; exact not_col_call h
    have e0 : toldT (.tuple [.str "term", t, n]) = termT 3 t ++ (" as " : Str) ++ sv n := by
      rcases ht with h | h
      · obtain ⟨z, rfl, _⟩ := valE h; rfl
      · obtain ⟨j, s, m, ts, e, rfl, _⟩ := callE h; rfl
    rw [e0]
    have k := pTold1_cat ht' hn hr.1 hc
    rcases ht with h | h
    · obtain ⟨z, rfl, hz⟩ := valE h
      rw [← k, cat3]
      have e1 : (tk "'" (cs (termT 3 (.str z)) ++ (cs (" as " : Str) ++ (cs (sv n) ++ r)))).isSome = true := by
        have : cs (termT 3 (.str z)) ++ (cs (" as " : Str) ++ (cs (sv n) ++ r)) = cs ("'" : Str) ++ (cs z ++ (cs ("'" : Str) ++ (cs (" as " : Str) ++ (cs (sv n) ++ r)))) := cat3 _ _ _ _
        rw [this, tk_cat]; rfl
      unfold pTold
      rw [if_pos e1]
    · obtain ⟨j, s, m, ts, e, rfl, hs, hm, _⟩ := callE h
      rw [← k, cat3]
      have : cs (termT 3 (.tuple [.str "call", s, m, .tuple ts])) ++ (cs (" as " : Str) ++ (cs (sv n) ++ r)) = cs (dotT s m) ++ (cs ("(" : Str) ++ (cs (Txt.join (", " : Str) (ts.map (termT 2))) ++ (cs (")" : Str) ++ (cs (" as " : Str) ++ (cs (sv n) ++ r))))) := by
        show cs (dotT s m ++ ("(" : Str) ++ Txt.join (", " : Str) (ts.map (termT 2)) ++ (")" : Str)) ++ _ = _
        rw [cs_cat, cs_cat, cs_cat, List.append_assoc, List.append_assoc, List.append_assoc]
      rw [this]
      exact pTold_dot hs hm fun c e => by cases e; exact ⟨by decide +kernel, by decide⟩
/-! sources -/
def GoodS (r : Cs) : Prop := StopT r ∧ ((tk " where " r).isSome = true ∨ ((tk " where " r) = none ∧ tk " " r = none))
/-- a word that stands whole -/
theorem word_eq {l w r u : Cs} (hl : l.all lowC = true) (hw : w.all lowC = true) (hr : Stop r) (hu : Stop u) (e : l ++ r = w ++ u) : l = w := by
  have h1 := takeWhile_stop hl hr
  rw [e, takeWhile_stop hw hu] at h1
  exact h1.symm
theorem where_no {z : Str} (h : namD (.str z) = true) {r : Cs} (hr : Stop r) : tk " where " (cs (" " : Str) ++ (cs z ++ r)) = none := by
  obtain ⟨_, e, hv, hn⟩ := namE h
  cases e
  cases q : tk " where " (cs (" " : Str) ++ (cs z ++ r)) with
  | none => rfl
  | some u =>
    exfalso
    unfold tk at q
    split at q
    · rename_i hp
      obtain ⟨u2, e2⟩ := List.isPrefixOf_iff_prefix.mp hp
      have e3 : cs (" where " : Str) = cs (" " : Str) ++ (cs ("where" : Str) ++ cs (" " : Str)) := by decide +kernel
      rw [e3, List.append_assoc, List.append_assoc] at e2
      have e4 := List.append_cancel_left e2
      have := word_eq (val_cs hv).1 (w := cs ("where" : Str)) (by decide +kernel) hr (u := cs (" " : Str) ++ u2) (fun c e => by cases e; decide +kernel) e4.symm
      have e5 : z = "where" := by rw [← mkS_cs z, this]; exact mkS_cs _
      rw [e5] at hn
      exact hn (by decide +kernel)
    · cases q
theorem pSource_cat {d : PyData} (h : srcD d = true) {r : Cs} (hr : GoodS r) : pSource (cs (srcT d) ++ r) = some (d, r) := by
  obtain ⟨s, n, l, rfl, hs, hn, hl⟩ := srcE h
  obtain ⟨y, rfl, hy, _⟩ := namE hn
  obtain ⟨z, rfl, hz, _⟩ := namE hl
  have e0 : srcT (.tuple [s, .str y, .str z]) = if sv (.str z) = sv (.str y) then dotT s (.str y) else dotT s (.str y) ++ (" " : Str) ++ sv (.str z) := rfl
  rw [e0]
  by_cases e : sv (.str z) = sv (.str y)
  · have e' : z = y := e
    subst e'
    rw [if_pos e]
    unfold pSource
    rw [pDot_cat hs hn hr.1.d]
    rcases hr.2 with h1 | ⟨h1, h2⟩
    · simp only [Option.bind_some, h1, if_true]
    · simp only [Option.bind_some, h1, Option.isSome_none, Bool.false_eq_true, if_false, h2]
  · rw [if_neg e, cat3]
    unfold pSource
    rw [pDot_cat hs hn (r := cs (" " : Str) ++ (cs (sv (.str z)) ++ r)) (fun c e => by cases e; exact ⟨by decide +kernel, by decide⟩)]
    have w := where_no hl hr.1.stop
    have w' : tk " where " (cs (" " : Str) ++ (cs (sv (.str z)) ++ r)) = none := w
    simp only [Option.bind_some, w', Option.isSome_none, Bool.false_eq_true, if_false, tk_cat]
    show (pName (cs z ++ r)).map _ = _
    rw [pName_cat hl hr.1.stop]
    rfl
/-! conditions -/
theorem pCond_cat {d : PyData} (h : condD d = true) {r : Cs} (hr : StopT r) : pCond (cs (condT d) ++ r) = some (d, r) := by
  rcases condE h with ⟨a, b, rfl, ha, hb⟩ | ⟨a, ds, rfl, ha, l1, l2, hds⟩
  · obtain ⟨a1, a2, rfl, ha1, ha2⟩ := colE ha
    obtain ⟨b1, b2, rfl, hb1, hb2⟩ := colE hb
    have e0 : condT (.tuple [.str "equal", .tuple [a1, a2], .tuple [b1, b2]]) = dotT a1 a2 ++ (" = " : Str) ++ dotT b1 b2 := rfl
    rw [e0, cat3]
    unfold pCond
    rw [pDot_cat ha1 ha2 (r := cs (" = " : Str) ++ (cs (dotT b1 b2) ++ r)) (fun c e => by cases e; exact ⟨by decide +kernel, by decide⟩)]
    simp only [Option.bind_some, tk_cat]
    rw [pDot_cat hb1 hb2 hr.d]
    rfl
  · obtain ⟨a1, a2, rfl, ha1, ha2⟩ := colE ha
    have e0 : cs (condT (.tuple [.str "in", .tuple [a1, a2], .tuple ds])) ++ r = cs (dotT a1 a2) ++ (cs (" in (" : Str) ++ (cs (Txt.join (", " : Str) (ds.map fun d => quoT (sv d))) ++ (cs (")" : Str) ++ r))) := by
      have : condT (.tuple [.str "in", .tuple [a1, a2], .tuple ds]) = dotT a1 a2 ++ (" in " : Str) ++ valsT ds := by
        show (if ("in" : Str) = "equal" then cellT (.tuple [a1, a2]) ++ (" = " : Str) ++ cellT (.tuple ds) else cellT (.tuple [a1, a2]) ++ (" in " : Str) ++ valsT ds) = _
        rw [if_neg (by decide +kernel)]
        rfl
      rw [this]
      unfold valsT
      have e2 : cs (" in (" : Str) = cs (" in " : Str) ++ cs ("(" : Str) := by decide +kernel
      rw [cat3, cs_cat, cs_cat, e2]
      simp only [List.append_assoc]
    rw [e0]
    unfold pCond
    rw [pDot_cat ha1 ha2 (r := cs (" in (" : Str) ++ (cs (Txt.join (", " : Str) (ds.map fun d => quoT (sv d))) ++ (cs (")" : Str) ++ r))) (fun c e => by cases e; exact ⟨by decide +kernel, by decide⟩)]
    have n1 : tk " = " (cs (" in (" : Str) ++ (cs (Txt.join (", " : Str) (ds.map fun d => quoT (sv d))) ++ (cs (")" : Str) ++ r))) = none := by
      have e3 : cs (" in (" : Str) = 32 :: 105 :: [110, 32, 40] := by decide +kernel
      rw [e3]
      exact tk_none2 (s := " = ") (a := 32) (b := 61) (c := 32) (d := 105) (t := [32]) (by decide +kernel) (by decide)
    have i := pList_cat (p := pVal) (sep := ", ") (T := fun d => quoT (sv d)) (Good := fun _ => True) (fun _ => trivial) (r := cs (")" : Str) ++ r) trivial (tk_none1 (s := ", ") (c := 44) (t := [32]) (by decide +kernel) fun c e => by cases e; decide) (n := 8) l1 l2 (fun x hx r' _ => by
      obtain ⟨z, rfl, hz⟩ := valE (hds x hx)
      show pVal (cs (("'" : Str) ++ z ++ ("'" : Str)) ++ r') = _
      rw [cat3]
      exact pVal_cat hz)
    simp only [Option.bind_some, n1, tk_cat]
    rw [i]
    simp only [Option.bind_some, tk_cat, Option.map_some]
/-! statements -/
theorem first_told {d : PyData} (h : toldD d = true) (r : Cs) (hr : StopT r) : tk "distinct " (cs (toldT d) ++ r) = none := by
  cases q : tk "distinct " (cs (toldT d) ++ r) with
  | none => rfl
  | some u =>
    exfalso
    unfold tk at q
    split at q
    · rename_i hp
      obtain ⟨u2, e2⟩ := List.isPrefixOf_iff_prefix.mp hp
      have e3 : cs ("distinct " : Str) = cs ("distinct" : Str) ++ cs (" " : Str) := by decide +kernel
      rw [e3, List.append_assoc] at e2
      have no : ∀ {z : Str} {r' : Cs}, namD (.str z) = true → Stop r' → cs z ++ r' = cs (toldT d) ++ r → False := fun {z r'} hn st e => by
        obtain ⟨_, e', hv, hm⟩ := namE hn
        cases e'
        have := word_eq (val_cs hv).1 (w := cs ("distinct" : Str)) (by decide +kernel) st (u := cs (" " : Str) ++ u2) (fun c e => by cases e; decide +kernel) (e.trans e2.symm)
        have e5 : z = "distinct" := by rw [← mkS_cs z, this]; exact mkS_cs _
        rw [e5] at hm
        exact hm (by decide +kernel)
      have nd : ∀ {a b : PyData} {r' : Cs}, nnD a = true → namD b = true → Stop r' → cs (dotT a b) ++ r' = cs (toldT d) ++ r → False := fun {a b r'} ha hb st e => by
        obtain ⟨z, rfl, hz, _⟩ := namE hb
        rcases nnE ha with rfl | ha
        · exact no hb st e
        · obtain ⟨y, rfl, hy, _⟩ := namE ha
          exact no ha (r' := cs ("." : Str) ++ (cs z ++ r')) (fun c e => by cases e; decide +kernel) ((cat3 _ _ _ _).symm.trans e)
      rcases toldE h with ⟨n, rfl, hn⟩ | ⟨c, n, rfl, hc, hn⟩ | ⟨t, n, rfl, ht, hn⟩
      · obtain ⟨z, rfl, hz, _⟩ := namE hn
        exact no hn (r' := cs (".*" : Str) ++ r) (fun c e => by cases e; decide +kernel) (cat2 z (".*" : Str) r).symm
      · obtain ⟨a, b, rfl, ha, hb⟩ := colE hc
        have e0 : toldT (.tuple [.str "column", .tuple [a, b], n]) = if sv b = sv n then dotT a b else dotT a b ++ (" as " : Str) ++ sv n := rfl
        by_cases e : sv b = sv n
        · exact nd ha hb hr.stop (by rw [e0, if_pos e])
        · exact nd ha hb (r' := cs (" as " : Str) ++ (cs (sv n) ++ r)) (fun c e => by cases e; decide +kernel) (by rw [e0, if_neg e, cat3])
      · rcases ht with h | h
        · obtain ⟨z, rfl, hz⟩ := valE h
          have e4 : cs (toldT (.tuple [.str "term", .str z, n])) ++ r = cs ("'" : Str) ++ (cs z ++ (cs ("'" : Str) ++ (cs (" as " : Str) ++ (cs (sv n) ++ r)))) := by
            show cs (quoT z ++ (" as " : Str) ++ sv n) ++ r = _
            rw [cat3]
            exact cat3 _ _ _ _
          rw [e4] at e2
          have e5 : cs ("distinct" : Str) = 100 :: cs ("istinct" : Str) := by decide +kernel
          have e6 : cs ("'" : Str) = [39] := by decide +kernel
          rw [e5, e6] at e2
          injection e2 with e7 _
          exact absurd e7 (by decide)
        · obtain ⟨j, s, m, ts, e, rfl, hs, hm, _⟩ := callE h
          refine nd hs hm (r' := cs ("(" : Str) ++ (cs (Txt.join (", " : Str) (ts.map (termT 2))) ++ (cs (")" : Str) ++ (cs (" as " : Str) ++ (cs (sv n) ++ r))))) (fun c e => by cases e; decide +kernel) ?_
          show _ = cs (dotT s m ++ ("(" : Str) ++ Txt.join (", " : Str) (ts.map (termT 2)) ++ (")" : Str) ++ (" as " : Str) ++ sv n) ++ r
          rw [cs_cat, cs_cat, cs_cat, cs_cat, cs_cat]
          simp only [List.append_assoc]
    · cases q
end My

namespace My
open PySem PySem.Spec PyProof.Rows L2
theorem tk_nil {s : Str} {c : Nat} {t : Cs} (e : cs s = c :: t) : tk s [] = none := tk_none1 e fun d h => by cases h
theorem stop_nil : StopT [] := fun c e => by cases e
theorem where_cs (cc : List PyData) (h : cc ≠ []) : cs (whereT cc) = cs (" where " : Str) ++ cs (Txt.join (" and " : Str) (cc.map condT)) := by
  cases cc with
  | nil => exact absurd rfl h
  | cons c cc =>
    show cs ((" where " : Str) ++ Txt.join (" and " : Str) ((c :: cc).map condT)) = _
    rw [cs_cat]
theorem where_nil : cs (whereT []) = [] := rfl
theorem goodS_where (cc : List PyData) : GoodS (cs (whereT cc)) ∧ tk ", " (cs (whereT cc)) = none := by
  by_cases h : cc = []
  · subst h
    rw [where_nil]
    exact ⟨⟨stop_nil, .inr ⟨tk_nil (s := " where ") (c := 32) (t := cs ("where " : Str)) (by decide +kernel), tk_nil (s := " ") (c := 32) (t := []) (by decide +kernel)⟩⟩, tk_nil (s := ", ") (c := 44) (t := [32]) (by decide +kernel)⟩
  · rw [where_cs cc h]
    exact ⟨⟨fun c e => by cases e; exact .inl rfl, .inl (by rw [tk_cat]; rfl)⟩, tk_none1 (s := ", ") (c := 44) (t := [32]) (by decide +kernel) fun c e => by cases e; decide⟩
theorem goodS_comma (r : Cs) : GoodS (cs (", " : Str) ++ r) :=
  ⟨fun c e => by cases e; exact .inr (.inl rfl), .inr ⟨tk_none1 (s := " where ") (c := 32) (t := cs ("where " : Str)) (by decide +kernel) fun c e => by cases e; decide, tk_none1 (s := " ") (c := 32) (t := []) (by decide +kernel) fun c e => by cases e; decide⟩⟩
theorem pTail_cat {b : Bool} {ts ss cc : List PyData} (l1 : 1 ≤ ss.length) (l2 : ss.length ≤ 4) (hs : ∀ x ∈ ss, srcD x = true) (l3 : cc.length ≤ 8) (hc : ∀ x ∈ cc, condD x = true) :
    pTail b ts (cs (" from " : Str) ++ (cs (Txt.join (", " : Str) (ss.map srcT)) ++ cs (whereT cc))) = some (.tuple [.bool b, .tuple ts, .tuple ss, .tuple cc], []) := by
  unfold pTail
  rw [tk_cat]
  have i := pList_cat (p := pSource) (sep := ", ") (T := srcT) (Good := GoodS) goodS_comma (goodS_where cc).1 (goodS_where cc).2 l1 l2 fun x hx r' g => pSource_cat (hs x hx) g
  simp only [Option.bind_some, i]
  by_cases h : cc = []
  · subst h
    rw [where_nil, tk_nil (s := " where ") (c := 32) (t := cs ("where " : Str)) (by decide +kernel)]
  · rw [where_cs cc h, tk_cat]
    have l4 : 1 ≤ cc.length := by cases cc with | nil => exact absurd rfl h | cons _ _ => exact Nat.succ_le_succ (Nat.zero_le _)
    have j := pList_cat (p := pCond) (sep := " and ") (T := condT) (Good := StopT) (fun r c e => by cases e; exact .inl rfl) stop_nil (tk_nil (s := " and ") (c := 32) (t := cs ("and " : Str)) (by decide +kernel)) l4 l3 fun x hx r' g => pCond_cat (hc x hx) g
    rw [List.append_nil] at j
    simp only [j, Option.map_some]
theorem goodT_from (r : Cs) : GoodTo (cs (" from " : Str) ++ r) := ⟨fun c e => by cases e; exact .inl rfl, by
  have e3 : cs (" from " : Str) = 32 :: 102 :: cs ("rom " : Str) := by decide +kernel
  rw [e3]
  exact tk_none2 (s := " as ") (a := 32) (b := 97) (c := 32) (d := 102) (t := cs ("s " : Str)) (by decide +kernel) (by decide)⟩
theorem goodT_comma (r : Cs) : GoodTo (cs (", " : Str) ++ r) := ⟨fun c e => by cases e; exact .inr (.inl rfl), as_comma r⟩
/-- what was written is read -/
theorem pStmt_cat {d : PyData} (h : stD d = true) : pStmt (cs (writeT d)) = some (d, []) := by
  obtain ⟨b, ts, ss, cc, rfl, ⟨l1, l2, ht⟩, ⟨m1, m2, hs⟩, n2, hc⟩ := stE h
  have e : cs (writeT (.tuple [.bool b, .tuple ts, .tuple ss, .tuple cc])) = cs (selT b) ++ (cs (Txt.join (", " : Str) (ts.map toldT)) ++ (cs (" from " : Str) ++ (cs (Txt.join (", " : Str) (ss.map srcT)) ++ cs (whereT cc)))) := by
    show cs (selT b ++ Txt.join (", " : Str) (ts.map toldT) ++ ((" from " : Str) ++ Txt.join (", " : Str) (ss.map srcT)) ++ whereT cc) = _
    rw [cs_cat, cs_cat, cs_cat, cs_cat]
    simp only [List.append_assoc]
  have i := pList_cat (p := pTold) (sep := ", ") (T := toldT) (Good := GoodTo) goodT_comma (goodT_from (cs (Txt.join (", " : Str) (ss.map srcT)) ++ cs (whereT cc))) (tk_none1 (s := ", ") (c := 44) (t := [32]) (by decide +kernel) fun c e => by cases e; decide) l1 l2 fun x hx r' g => pTold_cat (ht x hx) g
  have j := pTail_cat (b := b) (ts := ts) m1 m2 hs n2 hc
  rw [e]
  unfold pStmt
  cases b with
  | true =>
    have e2 : cs (selT true) = cs ("select " : Str) ++ cs ("distinct " : Str) := by decide +kernel
    rw [e2, List.append_assoc, tk_cat]
    have e3 : pSel (cs ("distinct " : Str) ++ (cs (Txt.join (", " : Str) (ts.map toldT)) ++ (cs (" from " : Str) ++ (cs (Txt.join (", " : Str) (ss.map srcT)) ++ cs (whereT cc))))) = (true, cs (Txt.join (", " : Str) (ts.map toldT)) ++ (cs (" from " : Str) ++ (cs (Txt.join (", " : Str) (ss.map srcT)) ++ cs (whereT cc)))) := by
      unfold pSel
      rw [tk_cat]
    simp only [Option.bind_some, e3, i, j]
  | false =>
    have e2 : cs (selT false) = cs ("select " : Str) := by decide +kernel
    rw [e2, tk_cat]
    have e4 : tk "distinct " (cs (Txt.join (", " : Str) (ts.map toldT)) ++ (cs (" from " : Str) ++ (cs (Txt.join (", " : Str) (ss.map srcT)) ++ cs (whereT cc)))) = none := by
      cases ts with
      | nil => exact absurd l1 (by decide)
      | cons t ts =>
        rw [List.map_cons, cs_join, List.append_assoc]
        refine first_told (ht t (List.mem_cons_self ..)) _ ?_
        cases ts with
        | nil => exact fun c e => by cases e; exact .inl rfl
        | cons x ts => exact fun c e => by cases e; exact .inr (.inl rfl)
    have e3 : pSel (cs (Txt.join (", " : Str) (ts.map toldT)) ++ (cs (" from " : Str) ++ (cs (Txt.join (", " : Str) (ss.map srcT)) ++ cs (whereT cc)))) = (false, cs (Txt.join (", " : Str) (ts.map toldT)) ++ (cs (" from " : Str) ++ (cs (Txt.join (", " : Str) (ss.map srcT)) ++ cs (whereT cc)))) := by
      unfold pSel
      rw [e4]
    simp only [Option.bind_some, e3, i, j]
end My

namespace My
open PySem PySem.Spec PyProof.Rows L2
/-! ### own errors, objects, methods, while -/
abbrev vErr : List Value := [.type "ValueError", .type "Exception", .type "BaseException", .type "object"]
/-- a class of errors over ValueError without a body -/
structure ErrC (K : PySem.W.Frag) (mg : Str → Option Value) (n : Str) (C : Addr) : Prop where
  g : mg n = some (.ref C)
  x : PySem.W.excIn K C vErr "ValueError.__new__" = true
  k : PySem.W.keepIn K (.ref C) = true
  b : PySem.W.subIn K (.ref C) (.type "BaseException") = some true
  t : PySem.W.typeIn K (.ref C) = some (.type "type")
/-- all of a def that may raise, by its name -/
structure CalX (P : Program) (w : World) (K : PySem.W.Frag) (mg : Str → Option Value) (base : Heap) (k : Nat) (x : Str) (sp : Sp) : Prop where
  ex : ∃ (f : Addr) (fd : FuncData) (ps : List Str), FnOk P w K mg base (L2.CX P w) k f fd ps sp ∧ mg x = some (.ref f) ∧ PySem.W.keepIn K (.ref f) = true ∧ Binds K fd ps []
/-- a def at an address, that may raise -/
structure AtX (P : Program) (w : World) (K : PySem.W.Frag) (mg : Str → Option Value) (base : Heap) (k : Nat) (f : Addr) (sp : Sp) : Prop where
  ex : ∃ (fd : FuncData) (ps : List Str), FnOk P w K mg base (L2.CX P w) k f fd ps sp ∧ PySem.W.keepIn K (.ref f) = true ∧ Binds K fd ps []
/-- a method of the class at C -/
structure MetN (P : Program) (w : World) (K : PySem.W.Frag) (mg : Str → Option Value) (base : Heap) (cx : CXT) (k : Nat) (C : Addr) (m : Str) (sp : Sp) : Prop where
  ex : ∃ (f : Addr) (fd : FuncData) (ps : List Str), FnOk P w K mg base cx k f fd ps sp ∧ Meth K C m f ∧ Binds K fd ps []
/-- the class at C is made by an __init__ -/
structure MakN (P : Program) (w : World) (K : PySem.W.Frag) (mg : Str → Option Value) (base : Heap) (cx : CXT) (k : Nat) (x : Str) (C : Addr) (sp : Sp) : Prop where
  ex : ∃ (f : Addr) (fd : FuncData) (ps : List Str), FnOk P w K mg base cx k f fd ps sp ∧ Mk K C f ∧ mg x = some (.ref C) ∧ Binds K fd ps []
theorem Fun.okXW {P : Program} {w : World} {K : PySem.W.Frag} {mg : Str → Option Value} {base : Heap} {x qual : Str} {st : Stmt} {f : Addr} {fd : FuncData} {N ps : List Str} {k : Nat} {sp : Sp} (F : Fun K x qual st f fd) (S : FnScope N ps (defScope st))
    (len : ∀ vs H Q E, sp vs H Q E → vs.length = ps.length)
    (body : ∀ (cdv : Value) (B : Around) (out : List Env) (s : Shared) (H : Hp) (vs : List V) (Q : VK) (E : XK), Room k (B.deeper (envOfC qual (defScope st) s.heap.objs.size f cdv)) →
      Takes (cxOf (L2.CX P w) P w K mg base N qual (defScope st) f cdv B out s H E) (fun cls d _ H => E cls d H) →
      PassesOwn (model P w) (B.deeper (envOfC qual (defScope st) s.heap.objs.size f cdv)) (envOfC qual (defScope st) s.heap.objs.size f cdv) (cxOf (L2.CX P w) P w K mg base N qual (defScope st) f cdv B out s H E).xe → sp vs H Q E →
      WL (cxOf (L2.CX P w) P w K mg base N qual (defScope st) f cdv B out s H E) (defBody st) { nx := fun _ H' => Q .non H', rt := Q } (start N vs) H) : FnOk P w K mg base (L2.CX P w) (k + 1) f fd ps sp :=
  F.okX S len fun cdv B out s H vs Q E hr h => ⟨_, pL, body cdv B out s H vs Q E hr (takes_of rfl rfl rfl rfl) (passes_of rfl) h⟩
section
variable {X : Cx} {W : WX} {E : XK} {o e c : Expr} {es : List Expr} {σ : L2.St} {H : Hp} {Q : VK} {D : Ends} {pos apos pos' tpos p p2 : Pos} {x m f : Str} {C : Addr} {k j : Nat} {sp : Sp}
theorem s_raise {i : Nat} (R : ErrC X.K X.mg x C) (tk : Takes X W) (q : W (.ref C) none σ H) (hc : X.calm = true := by rfl) (hg : Gl X x := by rfl) (hdb : (x == ("__debug__" : Str)) = false := by decide) : WS X (.Raise (some (.Call (.Name x p) [.Constant (.str m) i p2] [] pos)) none pos') D σ H :=
  toS (ps_raise hc tk (pmk_own PySem.F.excBase_ValueError R.x R.g R.k (raises_own R.b R.t) hg hdb)) q
theorem e_x (c : CalX X.prog X.w X.K X.mg X.base k x sp) (tk : Takes X W) (hr : Room j X.A) (hk : k ≤ j) (h : WA X (e :: es) σ H fun vs H1 => sp vs H1 Q fun cls d H' => W cls d σ H') (hg : Gl X x := by rfl)
    (hdb : (x == ("__debug__" : Str)) = false := by decide) (he : starEach (e :: es) X.env = (false, eval e X.env) :: starEach es X.env := by rfl) (hpl : (backTo pos (starEach es X.env)).any (·.1) = false := by rfl) :
    WE X (.Call (.Name x p) (e :: es) [] pos) σ H Q := by
  obtain ⟨f, fd, ps, F, hm, kp, hb⟩ := c.ex
  exact toE (pe_callS (E := fun σ cls d H => W cls d σ H) F (hr.mono hk) hg hm kp hb (fun σ => passAt tk σ) pA hdb he hpl) h
/-- a def that is held in a name -/
theorem e_xL (i : Nat) {g : Addr} (c : AtX X.prog X.w X.K X.mg X.base k g sp) (tk : Takes X fun cls d _ H => E cls d H) (hr : Room j X.A) (hk : k ≤ j) (hi : σ[i]? = some (some (.ref g))) (h : WA X (e :: es) σ H fun vs H1 => sp vs H1 Q E) (hN : X.N[i]? = some x := by rfl) (hv : Vis X.env.scope x := by first | exact Or.inl rfl | exact Or.inr (Or.inl rfl) | exact Or.inr (Or.inr rfl))
    (hdb : (x == ("__debug__" : Str)) = false := by decide) (hcd : (x == ("__classdict__" : Str)) = false := by decide) (he : starEach (e :: es) X.env = (false, eval e X.env) :: starEach es X.env := by rfl) (hpl : (backTo pos (starEach es X.env)).any (·.1) = false := by rfl) :
    WE X (.Call (.Name x p) (e :: es) [] pos) σ H Q := by
  obtain ⟨fd, ps, F, kp, hb⟩ := c.ex
  refine toE (pe_callL (i := i) F (hr.mono hk) hN hv kp hb .nil (passes_call tk fun _ _ _ _ h => h) pA hdb hcd he hpl) ⟨hi, WA.mono h fun vs H' q => ?_⟩
  show sp (vs ++ []) H' Q E
  rw [List.append_nil]; exact q
/-- o.m(e, ..) -/
theorem e_mX (c : MetN X.prog X.w X.K X.mg X.base (L2.CX X.prog X.w) k C m sp) (cl : Cls X.K C) (tk : Takes X fun cls d _ H => E cls d H) (hr : Room j X.A) (hk : k ≤ j)
    (h : WE X o σ H fun x H1 => ∃ a dx fs, x = .ref a ∧ H1 a = some (.ins C dx fs) ∧ fs.lookup m = none ∧ WA X (e :: es) σ H1 fun vs H2 => sp (.ref a :: vs) H2 Q E) {pl : Sem Bool}
    (hst : starEach (e :: es) X.env = (false, eval e X.env) :: starEach es X.env := by rfl) (hpl : (backTo pos (starEach es X.env)).any (·.1) = false := by rfl)
    (ht : eval (.Call (.Attribute o m apos) (e :: es) [] pos) X.env = (do
      let ov ← eval o X.env
      standAt apos.atName
      let (f, first) ← holding [ov] (getMethod ov m pl)
      callWith pos f first (backTo pos (starEach (e :: es) X.env)) (backToKw pos (keywordEach [] X.env))) := by rfl) : WE X (.Call (.Attribute o m apos) (e :: es) [] pos) σ H Q := by
  obtain ⟨f, fd, ps, F, hm, hb⟩ := c.ex
  refine toE (pe_meth (pl := pl) pE cl hm F (hr.mono hk) hb .nil (passes_call tk fun _ _ _ _ h => h) pA hst hpl ht) (WE.mono h fun x H1 ⟨a, dx, fs, e1, e2, e3, h2⟩ => ?_)
  subst e1
  refine ⟨a, dx, fs, rfl, e2, e3, WA.mono h2 fun vs H' q => ?_⟩
  rw [List.append_nil]; exact q
theorem e_mN (c : MetN X.prog X.w X.K X.mg X.base CX0 k C m sp) (cl : Cls X.K C) (hr : Room j X.A) (hk : k ≤ j)
    (h : WE X o σ H fun x H1 => ∃ a dx fs, x = .ref a ∧ H1 a = some (.ins C dx fs) ∧ fs.lookup m = none ∧ WA X (e :: es) σ H1 fun vs H2 => sp (.ref a :: vs) H2 Q E0) {pl : Sem Bool}
    (hst : starEach (e :: es) X.env = (false, eval e X.env) :: starEach es X.env := by rfl) (hpl : (backTo pos (starEach es X.env)).any (·.1) = false := by rfl)
    (ht : eval (.Call (.Attribute o m apos) (e :: es) [] pos) X.env = (do
      let ov ← eval o X.env
      standAt apos.atName
      let (f, first) ← holding [ov] (getMethod ov m pl)
      callWith pos f first (backTo pos (starEach (e :: es) X.env)) (backToKw pos (keywordEach [] X.env))) := by rfl) : WE X (.Call (.Attribute o m apos) (e :: es) [] pos) σ H Q := by
  obtain ⟨f, fd, ps, F, hm, hb⟩ := c.ex
  refine toE (pe_meth (pl := pl) pE cl hm F (hr.mono hk) hb .nil pass0 pA hst hpl ht) (WE.mono h fun x H1 ⟨a, dx, fs, e1, e2, e3, h2⟩ => ?_)
  subst e1
  refine ⟨a, dx, fs, rfl, e2, e3, WA.mono h2 fun vs H' q => ?_⟩
  rw [List.append_nil]; exact q
/-- o.m() -/
theorem e_mX0 (c : MetN X.prog X.w X.K X.mg X.base (L2.CX X.prog X.w) k C m sp) (cl : Cls X.K C) (tk : Takes X fun cls d _ H => E cls d H) (hr : Room j X.A) (hk : k ≤ j)
    (h : WE X o σ H fun x H1 => ∃ a dx fs, x = .ref a ∧ H1 a = some (.ins C dx fs) ∧ fs.lookup m = none ∧ sp [.ref a] H1 Q E) {pl : Sem Bool}
    (ht : eval (.Call (.Attribute o m apos) [] [] pos) X.env = (do
      let ov ← eval o X.env
      standAt apos.atName
      let (f, first) ← holding [ov] (getMethod ov m pl)
      callWith pos f first (backTo pos (starEach [] X.env)) (backToKw pos (keywordEach [] X.env))) := by rfl) : WE X (.Call (.Attribute o m apos) [] [] pos) σ H Q := by
  obtain ⟨f, fd, ps, F, hm, hb⟩ := c.ex
  exact toE (pe_meth0 (pl := pl) pE cl hm F (hr.mono hk) hb .nil (passes_call tk fun _ _ _ _ h => h) ht) (WE.mono h fun x H1 ⟨a, dx, fs, e1, e2, e3, h2⟩ => by subst e1; exact ⟨a, dx, fs, rfl, e2, e3, h2⟩)
theorem e_mN0 (c : MetN X.prog X.w X.K X.mg X.base CX0 k C m sp) (cl : Cls X.K C) (hr : Room j X.A) (hk : k ≤ j)
    (h : WE X o σ H fun x H1 => ∃ a dx fs, x = .ref a ∧ H1 a = some (.ins C dx fs) ∧ fs.lookup m = none ∧ sp [.ref a] H1 Q E0) {pl : Sem Bool}
    (ht : eval (.Call (.Attribute o m apos) [] [] pos) X.env = (do
      let ov ← eval o X.env
      standAt apos.atName
      let (f, first) ← holding [ov] (getMethod ov m pl)
      callWith pos f first (backTo pos (starEach [] X.env)) (backToKw pos (keywordEach [] X.env))) := by rfl) : WE X (.Call (.Attribute o m apos) [] [] pos) σ H Q := by
  obtain ⟨f, fd, ps, F, hm, hb⟩ := c.ex
  exact toE (pe_meth0 (pl := pl) pE cl hm F (hr.mono hk) hb .nil pass0 ht) (WE.mono h fun x H1 ⟨a, dx, fs, e1, e2, e3, h2⟩ => by subst e1; exact ⟨a, dx, fs, rfl, e2, e3, h2⟩)
/-- C(e, ..) -/
theorem e_makeX (c : MakN X.prog X.w X.K X.mg X.base (L2.CX X.prog X.w) k x C sp) (tk : Takes X fun cls d _ H => E cls d H) (hr : Room j X.A) (hk : k + 1 ≤ j)
    (h : WA X (e :: es) σ H fun vs H1 => ∀ a dx, H1 a = none → H1 dx = none → dx ≠ a → sp (.ref a :: vs) (upd (upd H1 dx (.own a)) a (.ins C dx [])) (fun v H2 => v = .non ∧ Q (.ref a) H2) E) (hg : Gl X x := by rfl)
    (hdb : (x == ("__debug__" : Str)) = false := by decide) (he : starEach (e :: es) X.env = (false, eval e X.env) :: starEach es X.env := by rfl) (hpl : (backTo pos (starEach es X.env)).any (·.1) = false := by rfl) :
    WE X (.Call (.Name x p) (e :: es) [] pos) σ H Q := by
  obtain ⟨f, fd, ps, F, M, hm, hb⟩ := c.ex
  refine toE (pe_make M F (hr.mono hk) hg hm hb .nil (passes_call tk fun _ _ _ _ h => h) pA hdb he hpl) (WA.mono h fun vs H1 q a dx n1 n2 n3 => ?_)
  rw [List.append_nil]; exact q a dx n1 n2 n3
/-- o.f -/
theorem e_fld (h : WE X o σ H fun x H1 => ∃ a C dx fs v, x = .ref a ∧ H1 a = some (.ins C dx fs) ∧ Cls X.K C ∧ NoAttr X.K C f ∧ fs.lookup f = some v ∧ Q v H1) (hb : attributeBase o f X.env (eval o X.env) = eval o X.env := by rfl) : WE X (.Attribute o f pos) σ H Q := toE (pe_fld pE hb) h
/-- o.f = e -/
theorem s_fld (h : WE X e σ H fun y H1 => WE X o σ H1 fun x H2 => ∃ a C dx fs, x = .ref a ∧ H2 a = some (.ins C dx fs) ∧ Cls X.K C ∧ NoAttr X.K C f ∧ fs.length < 1000 ∧ D.nx σ (upd H2 a (.ins C dx (putF f y fs))))
    (hs : swapsWith e (some (.Attribute o f pos')) pos.line X.env = pure false := by rfl) : WS X (.Assign [.Attribute o f pos'] e pos) D σ H := toS (ps_fld pE pE hs) h
/-- o.f += e, ints -/
theorem s_fldadd (h : WE X o σ H fun x H1 => ∃ a C dx fs v, x = .ref a ∧ H1 a = some (.ins C dx fs) ∧ Cls X.K C ∧ NoAttr X.K C f ∧ fs.lookup f = some v ∧
    WE X e σ H1 fun y H2 => ∃ i j, v = .int i ∧ y = .int j ∧ ∃ dx' fs', H2 a = some (.ins C dx' fs') ∧ fs'.length < 1000 ∧ D.nx σ (upd H2 a (.ins C dx' (putF f (.int (i + j)) fs')))) :
    WS X (.AugAssign (.Attribute o f tpos) .Add e pos) D σ H :=
  toS (ps_fldaug pE pE in_add) (WE.mono h fun x H1 ⟨a, C, dx, fs, v, e1, e2, e3, e4, e5, h2⟩ => ⟨a, C, dx, fs, v, e1, e2, e3, e4, e5, WE.mono h2 fun y H2 ⟨i, j, e6, e7, q⟩ => ⟨i, j, e6, e7, q⟩⟩)
/-- x += e, ints -/
theorem s_augI (i : Nat) (h : ∃ z : Int, σ[i]? = some (some (.int z)) ∧ WE X e σ H fun y H1 => ∃ j, y = .int j ∧ D.nx (σ.set i (some (.int (z + j)))) H1) (hN : X.N.Nodup) (hi : X.N[i]? = some x := by rfl) (hx : Loc X.env.scope x := by first | exact Or.inl rfl | exact Or.inr rfl)
    (hf : X.fn x = true ∨ X.env.scope.names.lookup x = some .local := by first | exact .inl rfl | exact .inr rfl | assumption) : WS X (.AugAssign (.Name x pos') .Add e pos) D σ H := by
  obtain ⟨z, hz, k⟩ := h
  exact toS (ps_aug (ti := fun x y H Q => ∃ i j, x = .int i ∧ y = .int j ∧ Q (.int (i + j)) H) hN hi hx pE (fun pins s σ H x y u v Q I rx ry h => iop_add pins s σ H x y u v Q I rx ry h) hf) ⟨_, hz, WE.mono k fun y H1 ⟨j, e, q⟩ => ⟨z, j, rfl, e, q⟩⟩
/-- while -/
theorem s_while {body : List Stmt} (Pv : L2.St → Hp → Prop) (μ : L2.St → Hp → Nat) (h0 : Pv σ H)
    (hs : ∀ σ H, Pv σ H → WT X c σ H fun b H1 => if b = true then WL X body { D with nx := fun σ' H' => Pv σ' H' ∧ μ σ' H' < μ σ H, ct := fun σ' H' => Pv σ' H' ∧ μ σ' H' < μ σ H, bk := D.nx } σ H1 else D.nx σ H1)
    (hp : PassesOwn (model X.prog X.w) X.A X.env X.xe) : WS X (.While c body [] pos) D σ H :=
  toS (ps_while hp pT pL) (while_by Pv μ h0 hs fun σ H Q Q' k q => WT.mono q k)
/-- o.startswith(a, b) -/
theorem e_starts {a b : Expr} (h : WE X o σ H fun x H1 => (∃ z, x = .str z) ∧ WE X a σ H1 fun y H2 => WE X b σ H2 fun u H3 => ∃ z s i, x = .str z ∧ y = .str s ∧ u = .int i ∧ Q (.bl (Txt.startswith3 z s i)) H3)
    (hbase : attributeBase o "startswith" X.env (eval o X.env) = eval o X.env := by rfl)
    (hfew : ((backTo pos (starEach [a, b] X.env)).all (fun x => !x.1) && (backToKw pos (keywordEach [] X.env)).all (fun x => x.1.isSome) && decide ([a, b].length + ([] : List Keyword).length + (if ([] : List Keyword).isEmpty then 0 else 1) < 30)) = true := by rfl)
    (hline : (apos.endLine == pos.line) = true := by rfl) (hs : starEach [a, b] X.env = (false, eval a X.env) :: starEach [b] X.env := by rfl) (hs2 : starEach [b] X.env = (false, eval b X.env) :: starEach [] X.env := by rfl) (hplain : (backTo pos (starEach [b] X.env)).any (·.1) = false := by rfl) :
    WE X (.Call (.Attribute o "startswith" apos) [a, b] [] pos) σ H Q :=
  toE (pe_bm PySem.F.plainAttrs_str PySem.F.slot_str_startswith PySem.F.type_str_startswith mt_startswith3 pE pA hbase hfew hline hs hplain) (WE.mono h fun x H1 ⟨⟨z, e1⟩, h2⟩ => by
    subst e1
    exact ⟨rfl, a_cons (WE.mono h2 fun y H2 h3 => a_cons (WE.mono h3 fun u H3 ⟨z', s, i, e1, e2, e3, q⟩ => a_nil ⟨z', s, i, e1, by rw [e2, e3], q⟩) hs2) hs⟩)
/-- o[a:b], a text -/
theorem e_slS {a b : Expr} (h : WE X o σ H fun x H1 => WE X a σ H1 fun y H2 => ∃ i, y = .int i ∧ WE X b σ H2 fun u H3 => ∃ z j, x = .str z ∧ u = .int j ∧ z.length ≤ sizeLine ∧ Q (.str (cutS z (some i) (some j))) H3) : WE X (.Subscript o (.Slice (some a) (some b) none p2) pos) σ H Q :=
  toE (pe_slice sl_str pE (po_some pE) (po_some pE)) (WE.mono h fun x H1 h1 => WE.mono h1 fun y H2 ⟨i, e2, h2⟩ => ⟨i, e2, WE.mono h2 fun u H3 ⟨z, j, e1, e3, hz, q⟩ => ⟨j, e3, z, e1, hz, q⟩⟩)
end
/-! texts at a place -/
theorem starts_eq {T s : Str} {n : Nat} (hn : n ≤ T.length) : Txt.startswith3 T s n = (tk s ((cs T).drop n)).isSome := by
  have e1 : PySem.fromIndex T.length (n : Int) = n := by unfold PySem.fromIndex; rw [if_neg (by omega)]; omega
  unfold Txt.startswith3 tk
  rw [e1]
  have e2 : (if (cs s).isPrefixOf ((cs T).drop n) then some (((cs T).drop n).drop (cs s).length) else none).isSome = (cs s).isPrefixOf ((cs T).drop n) := by
    cases h : (cs s).isPrefixOf ((cs T).drop n) <;> simp
  rw [e2]
  apply Bool.eq_iff_iff.mpr
  rw [Bool.and_eq_true, decide_eq_true_eq, List.isPrefixOf_iff_prefix, List.prefix_iff_eq_take]
  have e3 : Builtin.Str.subAt T s n = true ↔ ((cs T).drop n).take s.length = cs s := by
    show (T.cps.extract n (n + s.length) == s.cps) = true ↔ _
    rw [beq_iff_eq]
    have : (T.cps.extract n (n + s.length)).toList = ((cs T).drop n).take s.length := by
      rw [Array.toList_extract]; simp [List.extract]
    rw [← this]
    exact ⟨fun h => by rw [h], fun h => Array.toList_inj.mp h⟩
  rw [e3]
  have el : (cs s).length = s.length := rfl
  rw [el]
  constructor
  · rintro ⟨_, h⟩; exact h.symm
  · intro h
    refine ⟨?_, h.symm⟩
    have := congrArg List.length h
    rw [List.length_take, List.length_drop] at this
    have e4 : (cs T).length = T.length := rfl
    rw [el, e4] at this
    omega
end My

namespace My
open PySem PySem.Spec PyProof.Rows L2
/-! ### a caught error that outlives its suite: try: .. except C as n: y = n -/
/-- an error's own object, of the class cls, without a dict -/
def ExO (a : Addr) (cls : Value) : HO := .ext fun h => ∃ oe, h.get? a = some oe ∧ Zc cls none oe ∧ ∃ vs, oe.data = .fields vs
section
variable {X : Cx} {pins : List (Addr × Obj)} {σ : L2.St} {H : Hp} {s : Shared} {a : Addr} {oe : Obj} {cls : Value}
theorem exO_ok (h1 : s.heap.get? a = some oe) (hz : Zc cls none oe) (hd : ∃ vs, oe.data = .fields vs) {H' : Hp} : ObjOk X.prog X.w H' s.heap a (ExO a cls) :=
  ⟨⟨oe, h1, hz, hd⟩, ⟨oe, h1⟩, fun _ _ ⟨o, e, r⟩ k => ⟨o, k _ e, r⟩⟩
/-- a pinned error is tracked from here on -/
theorem inv_hold (I : Inv X ((a, oe) :: pins) σ H s) (h0 : X.s_0.heap.get? a = none) (hp : ∀ q ∈ X.pn ++ pins, q.1 ≠ a) (hz : Zc cls none oe) (hd : ∃ vs, oe.data = .fields vs) : Inv X pins σ (upd H a (ExO a cls)) s := by
  obtain ⟨g, fr, nl, nf, nc⟩ := I.pin (a, oe) (List.mem_append.mpr (.inr List.mem_cons_self))
  have na : ∀ {b : Addr} {u : HO}, H b = some u → b ≠ a := fun e z => by rw [z, fr] at e; cases e
  have n0 : ∀ {b : Addr} {u : Obj}, X.s_0.heap.get? b = some u → b ≠ a := fun e z => by rw [z, h0] at e; cases e
  have B := I.base
  have tr : ∀ {b : Addr} {u : HO}, H b = some u → upd H a (ExO a cls) b = some u := fun e => by rw [upd_ne (na e)]; exact e
  refine ⟨I.ok, I.os, I.bare, ⟨B.keep, B.slot, fun b o e n x => by rw [upd_ne (n0 e)]; exact B.free b o e n x, B.there, fun b xs e => tr (B.tups b xs e), fun b o u e => tr (B.frzs b o u e), fun b ps e => ?_⟩, I.loc, I.cell, ?_, fun x c e => ?_, fun q hq => ?_, fun b u e => ?_, I.len⟩
  · obtain ⟨m, r⟩ := B.tbls b ps e
    exact ⟨m, tr r⟩
  · rw [upd_ne (Ne.symm nl)]; exact I.free
  · have ne : c ≠ a := fun z => by
      obtain ⟨v, oc, r1, r2⟩ := I.cell x c e
      rw [z, g] at r1
      exact nc v (by cases r1; exact r2)
    rw [upd_ne ne]; exact I.freeC x c e
  · have hm : q ∈ X.pn ++ ((a, oe) :: pins) := by
      rcases List.mem_append.mp hq with z | z
      · exact List.mem_append_left _ z
      · exact List.mem_append_right _ (List.mem_cons_of_mem _ z)
    obtain ⟨r1, r2, r3⟩ := I.pin q hm
    exact ⟨r1, by rw [upd_ne (hp q hq)]; exact r2, r3⟩
  · by_cases z : b = a
    · subst z
      rw [upd_same] at e
      cases e
      exact exO_ok g hz hd
    · rw [upd_ne z] at e
      exact (I.hok b u e).stay (fun _ _ _ r => r) (fun _ r => tr r) fun _ _ r => tr r
/-- out of the suite, the error's pin kept -/
theorem inv_unsuiteK {pn' : List (Addr × Obj)} (I : Inv (X.suite a ((a, oe) :: (X.pn ++ pins))) pn' σ H s) (ok : X.Ok) : Inv X ((a, oe) :: pins) σ H s := by
  refine ⟨ok, I.os, I.bare, I.base, I.loc, I.cell, I.free, I.freeC, fun q hq => I.pin q (List.mem_append_left _ ?_), I.hok, I.len⟩
  rcases List.mem_append.mp hq with z | z
  · exact List.mem_cons_of_mem _ (List.mem_append_left _ z)
  · rcases List.mem_cons.mp z with z | z
    · rw [z]; exact List.mem_cons_self
    · exact List.mem_cons_of_mem _ (List.mem_append_right _ z)
end
/-- what the clause wishes: the error stands in y's slot j, n's slot i is gone -/
def wHold (K : PySem.W.Frag) (c : Value) (i j : Nat) (D : Ends) : WX := fun cls d σ H =>
  PySem.W.exmOne K cls c = some true ∧ d = none ∧ ∀ a, H a = none → D.nx ((σ.set j (some (.ref a))).set i none) (upd H a (ExO a cls))
section
variable {X : Cx} {x n y : Str} {c : Value} {i j : Nat} {body : List Stmt} {np py pn2 pa pos pos' : Pos} {σ : L2.St} {H : Hp} {D : Ends}
theorem s_try_hold (hs : X.stack = X.env :: X.outer) (hf : X.env.frame = some X.env.locals) (hx : X.ex = []) (hN : X.N.Nodup) (hi : X.N[i]? = some n) (hj : X.N[j]? = some y) (ij : i ≠ j) (li : X.env.kindOf n = some .local) (lj : X.env.kindOf y = some .local) (hc : Names X x c)
    (h : ∀ (pn : List (Addr × Obj)) (xe : Value → Shared → Prop), Takes (X.tr pn xe) (wHold X.K c i j D) → PassesOwn (model X.prog X.w) X.A X.env xe → WL (X.tr pn xe) body D σ H)
    (hdn : (n == ("__debug__" : Str)) = false := by decide) (hcn : (n == ("__classdict__" : Str)) = false := by decide)
    (hsw : ∀ X' : Cx, X'.env = X.env → swapsWith (.Name n pn2) (some (.Name y py)) pa.line X'.env = pure false := by intro X' e; rw [e]; rfl) :
    WS X (.Try body [.ExceptHandler (some (.Name x np)) (some n) [.Assign [.Name y py] (.Name n pn2) pa] pos'] [] [] pos) D σ H := by
  refine ⟨fun pins s I => wpAny_Try_except ?_⟩
  have ok := I.ok
  have fr : X.A.frames = some (X.env :: X.outer) := ok.frames.trans (congrArg some hs)
  have run := (h (X.pn ++ pins) (fun e s₁ => wpAny (model X.prog X.w) X.A (noteFrame e X.env) (fun _ s₂ => wpAny (model X.prog X.w) X.A (setFlight e none)
      (fun _ s₃ => wpAny (model X.prog X.w) X.A (handleBy e X.env [.ExceptHandler (some (.Name x np)) (some n) [.Assign [.Name y py] (.Name n pn2) pa] pos']) (SP X pins D) X.xe s₃) X.xe s₂) X.xe s₁) ?_ PassesOwn.looking).go [] s (I.toTry _)
  · refine wpAny_mono run (fun fl s1 q => ?_) fun _ _ z => z
    cases fl with
    | next => obtain ⟨τ, G, J, r⟩ := q; exact wpAny_execs_nil ⟨τ, G, J.ofTry ok, r⟩
    | brk => obtain ⟨τ, G, J, r⟩ := q; exact ⟨τ, G, J.ofTry ok, r⟩
    | cont => obtain ⟨τ, G, J, r⟩ := q; exact ⟨τ, G, J.ofTry ok, r⟩
    | ret u => obtain ⟨v, τ, G, J, rv, r⟩ := q; exact ⟨v, τ, G, J.ofTry ok, rv, r⟩
  -- an error
  rintro u s1 ⟨a, B, sI, qs, τ, G, cls, d, rfl, J', nb, up, sky, na, os, ag, hm, rfl, hq⟩
  have J : Inv X pins τ G sI := J'.ofTry ok
  rw [hs] at sky
  refine Sky.land Zc.steady fr hf sky fun h3 f3 u3 => ?_
  obtain ⟨o3, v3, g3, z3, d3⟩ := f3.there
  have away : a ∉ frs (X.env :: X.outer) := fun hin => by
    obtain ⟨_, o', e', bad⟩ := f3.2.2.1.mem hin
    rw [g3] at e'; cases e'
    exact bad _ d3
  have nI : sI.heap.get? a = none := by
    cases e : sI.heap.get? a with
    | none => rfl
    | some o =>
      have := nb a o e (by rw [hs]; exact away)
      rw [f3.2.1] at this; cases this
  have n0 : X.s_0.heap.get? a = none := by
    cases e : X.s_0.heap.get? a with
    | none => rfl
    | some o =>
      obtain ⟨o', e'⟩ := J.base.there a o e (by rw [hx]; exact List.not_mem_nil)
      rw [nI] at e'; cases e'
  have np' : ∀ q ∈ X.pn ++ pins, q.1 ≠ a := fun q hq z => by
    have := (J.pin q hq).1
    rw [z, nI] at this; cases this
  have nL : a ≠ X.env.locals := fun z => away (List.mem_filterMap.mpr ⟨X.env, List.mem_cons_self, by rw [hf, z]⟩)
  have nF : a ∉ X.fs := fun hin => by
    obtain ⟨e, he, r⟩ := List.mem_filterMap.mp hin
    exact away (List.mem_filterMap.mpr ⟨e, List.mem_cons_of_mem _ he, r⟩)
  have L3 : Inv X pins τ G { s1 with heap := h3 } := J.landed nb f3.1 (up.trans u3) os ag
  have S3 := L3.suite g3 d3 na nL nF
  refine wpAny_handleBy_cons (codeAny_handlers_test ?_) (by intro r; cases r)
  have ty : PySem.W.Looks (model X.prog X.w) h3 (typeOf (.ref a)) cls := fun A Q E s k r => wpAny_typeOf_ref (k _ _ g3) (by rw [z3.1]; exact r)
  have look := PySem.W.exm_one (M := model X.prog X.w) L3.kIn ty hm
  have named : ∀ {Q : Value → Shared → Prop} {E : Value → Shared → Prop}, Q c { s1 with heap := h3 } → wpAny (model X.prog X.w) (X.A.mark (some (.ref a))) (eval (.Name x np) X.env) Q E { s1 with heap := h3 } := fun r => by
    obtain ⟨gx, dx, e | ⟨e1, e2, e3⟩⟩ := hc
    · exact ld_glob (X := X.suite a ((a, o3) :: (X.pn ++ pins))) S3 gx e r dx
    · exact ld_blt (X := X.suite a ((a, o3) :: (X.pn ++ pins))) S3 gx e1 e2 r e3 dx
  refine named (look.here (codeAny_handlers_suite_as (HandSPX.lands_againZ f3 fun h4 f4 u4 => ?_)))
  obtain ⟨o4, v4, g4, z4, d4⟩ := f4.there
  have L4 : Inv X pins τ G { s1 with heap := h4 } := J.landed nb f4.1 ((up.trans u3).trans u4) os ag
  have S4 := L4.suite g4 d4 na nL nF
  refine store_ok (X := X.suite a ((a, o4) :: (X.pn ++ pins))) (v := .ref a) S4 hN hi (.inl li) rfl (fun s5 S5 => ?_) (.inr li)
  have li' : i < τ.length := by rw [J.len]; exact (List.getElem?_eq_some_iff.mp hi).1
  have asg : PSs (X.suite a ((a, o4) :: (X.pn ++ pins))) [.Assign [.Name y py] (.Name n pn2) pa] _ := pss_one (ps_set (i := j) hN hj (.inl lj) (pe_var (i := i) hi (.inl li) hdn hcn) (hsw _ rfl) (.inr lj))
  refine wpAny_mono (asg.run [] s5 _ G { nx := fun τ' G' => τ' = (τ.set i (some (.ref a))).set j (some (.ref a)) ∧ G' = G, rt := fun _ _ => False } S5 ⟨_, by rw [List.getElem?_set_self li'], rfl, rfl⟩) (fun fl s6 q => ?_) (fun _ _ z => z.elim)
  cases fl with
  | brk => obtain ⟨_, _, _, z⟩ := q; exact z.elim
  | cont => obtain ⟨_, _, _, z⟩ := q; exact z.elim
  | ret u => obtain ⟨_, _, _, _, _, z⟩ := q; exact z.elim
  | next =>
    obtain ⟨τ6, G6, S6, rfl, rfl⟩ := q
    refine gone_ok (inv_unsuiteK S6 ok) hN hi li fun s7 J7 => ⟨_, _, inv_hold J7 n0 np' z4 ⟨_, d4⟩, ?_⟩
    have e : ((τ.set i (some (V.ref a))).set j (some (V.ref a))).set i none = (τ.set j (some (V.ref a))).set i none := by
      rw [List.set_comm _ _ ij, List.set_set]
    rw [e]
    exact hq a na
end
/-! isinstance of a held error -/
section
variable {X : Cx} {e t : Expr} {σ : L2.St} {H : Hp} {Q : VK} {pos p : Pos} {D : Addr}
theorem call_isO (C : ExcC X.K D) : CallR X (.builtin "isinstance") (fun xs H Q => ∃ (a : Addr) (c : V) (cv : Value) (b : Bool), xs = [.ref a, c] ∧ H a = some (ExO a (.ref D)) ∧ (∀ u, RelV c u → u = cv) ∧ PySem.W.kitOne X.K (.ref D) cv = some b ∧ Q (.bl b) H) := by
  rintro pins s σ H xs us Q I r ⟨a, c, cv, b, rfl, ha, hcv, hk, q⟩
  cases r with
  | cons r1 r2 =>
    cases r2 with
    | cons r3 r4 =>
      cases r4
      cases r1
      have ec := hcv _ r3
      subst ec
      obtain ⟨⟨oe, g, hz, vs, hv⟩, _⟩ : ObjOk X.prog X.w H s.heap a (ExO a (.ref D)) := I.hok a _ ha
      have at_ : PySem.W.InstAt s.heap a oe D none := by
        obtain ⟨c0, d0, t0, l0⟩ := oe
        obtain ⟨h1, h2⟩ := hz
        dsimp only at h1 h2 hv
        subst h1 h2 hv
        exact ⟨g, rfl, rfl, trivial⟩
      exact PySem.W.kia_one (PySem.W.handS_kitx_exc C.hg C.hk C.hs C.hd C.ha C.hn C.ht C.hm) I.kIn at_ hk (fun z => nomatch z) fun tk => ⟨.bl b, H, I.kept (t' := tk) fun _ _ z => z, rfl, q⟩
/-- isinstance(e, T), e a held error, T a class of the program -/
theorem e_isO (hm : X.mg "isinstance" = none) (C : ExcC X.K D) {T : Str} {CT : Addr} {pT : Pos} {b : Bool} (hT : X.mg T = some (.ref CT)) (hk : PySem.W.kitOne X.K (.ref D) (.ref CT) = some b) (h : WE X e σ H fun x H1 => ∃ a, x = .ref a ∧ H1 a = some (ExO a (.ref D)) ∧ Q (.bl b) H1) (hg : Gl X "isinstance" := by rfl) (hgT : Gl X T := by rfl) (hdT : (T == ("__debug__" : Str)) = false := by decide)
    (he : starEach [e, .Name T pT] X.env = (false, eval e X.env) :: starEach [.Name T pT] X.env := by rfl) (he2 : starEach [.Name T pT] X.env = (false, eval (.Name T pT) X.env) :: starEach [] X.env := by rfl) (hpl : (backTo pos (starEach [.Name T pT] X.env)).any (·.1) = false := by rfl) :
    WE X (.Call (.Name "isinstance" p) [e, .Name T pT] [] pos) σ H Q :=
  e_callB (call_isO C) hm PyProof.Rows.boot_isinstance (a_cons (WE.mono h fun x H1 ⟨a, e1, ha, q⟩ => a_cons (e_glob (v := .ref CT) hT rfl (a_nil ⟨a, .ref CT, .ref CT, b, by rw [e1], ha, fun u r => r, hk, q⟩) hgT hdT) he2) he) hg (by decide) (by decide) he hpl
/-- isinstance(e, T), T a class that is built in -/
theorem e_isOB (hm : X.mg "isinstance" = none) (C : ExcC X.K D) {T : Str} {tn : String} {pT : Pos} {b : Bool} (hT : X.mg T = none) (hB : bootBuiltins T = some (.type tn)) (hn : T ≠ "__name__") (hk : PySem.W.kitOne X.K (.ref D) (.type tn) = some b) (h : WE X e σ H fun x H1 => ∃ a, x = .ref a ∧ H1 a = some (ExO a (.ref D)) ∧ Q (.bl b) H1) (hg : Gl X "isinstance" := by rfl) (hgT : Gl X T := by rfl) (hdT : (T == ("__debug__" : Str)) = false := by decide)
    (he : starEach [e, .Name T pT] X.env = (false, eval e X.env) :: starEach [.Name T pT] X.env := by rfl) (he2 : starEach [.Name T pT] X.env = (false, eval (.Name T pT) X.env) :: starEach [] X.env := by rfl) (hpl : (backTo pos (starEach [.Name T pT] X.env)).any (·.1) = false := by rfl) :
    WE X (.Call (.Name "isinstance" p) [e, .Name T pT] [] pos) σ H Q :=
  e_callB (call_isO C) hm PyProof.Rows.boot_isinstance (a_cons (WE.mono h fun x H1 ⟨a, e1, ha, q⟩ => a_cons (e_bltn (v := .ty tn) hT hB rfl (a_nil ⟨a, .ty tn, .type tn, b, by rw [e1], ha, fun u r => r, hk, q⟩) hgT hn hdT) he2) he) hg (by decide) (by decide) he hpl
end
end My

namespace L2
open PySem PySem.Spec PyProof.Rows
section
variable {X : Cx}
/-- list * int -/
theorem op_mulL : OpR X (binaryOp .Mult) (fun x y H Q => ∃ l k xs, x = .ref l ∧ y = .int k ∧ SqL X.K H l xs ∧ 0 ≤ k ∧ k ≤ 1000 ∧ xs.length ≤ 1000 ∧ ∀ p, H p = none → Q (.ref p) (upd H p (.lst (List.replicate k.toNat xs).flatten))) := by
  intro pins s σ H x y v u Q I rx ry h
  obtain ⟨l, k, xs, rfl, rfl, hT, h0, h1, hz, q⟩ := h
  cases rx
  obtain ⟨t, rfl⟩ := ry
  obtain ⟨its, r, pl, hs⟩ := I.list hT
  obtain ⟨⟨cls, dd, data, sl⟩, ho, hc, n, hd⟩ := pl.isList
  simp only at hc hd
  subst hc hd
  have hle : its.length = xs.length := r.length.symm
  have flen : its.toArray.size * k.toNat ≤ 1000000 := by
    rw [List.size_toArray, hle]
    exact Nat.mul_le_mul hz (show k.toNat ≤ 1000 by omega)
  refine wpAny_binaryOp_repeat_ref (T := "list") (U := "int") (by decide) ⟨_, ho, rfl⟩ (fun s' => typeIs_int s' k t) noFill_list_mul F.fills_int_mul F.slot_int_rmul repeat_list F.slot_int_index.lookup
    (call_meets F.slot_int_rmul (typeIs_int s k t) F.entry_int_rmul (F.args_int_rmul_2 _ _) (lm_int_rmul_list_any k t l its.toArray n dd sl)
      ⟨ho, rfl, ⟨_, ho, rfl⟩, call_meets F.slot_list_mul ⟨_, ho, rfl⟩ F.entry_list_mul (F.args_list_mul_2 _ _)
        (lm_list_mul_any l its.toArray n dd sl k t (by simp [Builtin.List.listFitsIndex]; omega) (by omega) (by simp only [Builtin.List.listTooLong, sizeLine_eq, decide_eq_true_eq]; omega))
        ⟨ho, ?_⟩⟩)
  rw [listMul_foldl_if]
  refine ⟨.ref s.heap.objs.size, _, I.laid (t' := s.toks) (o := .lst (List.replicate k.toNat xs).flatten) (fun b ob q => Heap.get?_push_of_some _ q) (Nat.le_refl _) ?_, rfl, q _ (I.hok.fresh (Nat.le_refl _))⟩
  exact ⟨by rw [PyProof.Rows.lm_len_rep_flat, sizeLine_eq]; have a1 : k.toNat * xs.length ≤ 1000 * 1000 := Nat.mul_le_mul (by omega) hz; omega, _, 0, r.rep k.toNat, Heap.get?_push_size _ rfl⟩
/-- text * int, also long -/
theorem op_mulS2 : OpR X (binaryOp .Mult) (fun x y H Q => ∃ z k, x = .str z ∧ y = .int k ∧ 2 ≤ k ∧ k ≤ 10000 ∧ 1 ≤ z.length ∧ z.length ≤ 100 ∧ Q (.str ⟨(List.replicate k.toNat z.cps).foldl (· ++ ·) #[]⟩) H) := by
  intro pins s σ H x y v u Q I rx ry h
  obtain ⟨z, k, rfl, rfl, h1, h2, h3, h4, q⟩ := h
  obtain ⟨t, rfl⟩ := rx
  obtain ⟨t', rfl⟩ := ry
  have hno : (k == 1 || z.length == 0) = false := by
    rw [beq_eq_false_iff_ne.mpr (show k ≠ 1 by omega), beq_eq_false_iff_ne.mpr (show z.length ≠ 0 by omega)]; rfl
  refine P.mul_str ?_ (fun _ _ => ?_) (fun _ _ => ?_) ?_
  · rw [decide_eq_false (by omega), decide_eq_false (by omega)]; rfl
  · have : (100 : Int) ≤ (2 ^ 63 - 1) / k := by
      refine Int.le_ediv_of_mul_le (by omega) ?_
      omega
    omega
  · refine decide_eq_false ?_
    rw [sizeLine_eq]
    have : z.length * k.toNat ≤ 100 * 10000 := Nat.mul_le_mul h4 (by omega)
    omega
  · rw [if_neg (by omega), hno, if_neg (by decide)]
    refine ⟨?_, ⟨.str _, H, I.tok _, ⟨_, rfl⟩, q⟩⟩
    show ((List.replicate k.toNat z.cps).foldl (fun x1 x2 => x1 ++ x2) #[]).size ≤ sizeLine
    rw [rep_size, sizeLine_eq]
    have : k.toNat * z.cps.size ≤ 10000 * 100 := Nat.mul_le_mul (by omega) h4
    show #[].size + _ ≤ _
    simp only [List.size_toArray, List.length_nil]
    omega
def chars (z : Str) : List Str := z.cps.toList.map fun c => ⟨#[c]⟩
theorem vals_signs : ∀ (cs : List Nat) (its : List Value), its.length = cs.length → (∀ (j : Nat) (v : Value), its[j]? = some v → ∃ (c : Nat) (u : Tok), cs[j]? = some c ∧ v = Value.str ⟨#[c]⟩ u) → Vals (cs.map fun c => V.str ⟨#[c]⟩) its
  | [], [], _, _ => .nil
  | [], _ :: _, h, _ => by cases h
  | _ :: _, [], h, _ => by cases h
  | c :: cs, v :: vs, h, k => by
    obtain ⟨c', u, e1, e2⟩ := k 0 v rfl
    cases e1
    subst e2
    exact .cons ⟨_, rfl⟩ (vals_signs cs vs (by simpa using h) fun j v' hv => k (j + 1) v' hv)
/-- list(text) -/
theorem call_list_ofS (hcalm : X.calm = true) : CallR X (.type "list") (fun xs H Q => ∃ z : Str, xs = [.str z] ∧ z.length ≤ 1000 ∧ ∀ l, H l = none → Q (.ref l) (upd H l (.lst ((chars z).map V.str)))) := by
  intro pins s σ H xs us Q I r h
  obtain ⟨z, rfl, hz, q⟩ := h
  obtain ⟨u, rfl, rx⟩ := vals1 r
  obtain ⟨t, rfl⟩ := rx
  have hz' : z.cps.size ≤ 1000 := hz
  refine call_list_str (I.ok.hd hcalm) z t (hn := Nat.le_trans hz' (by decide)) fun h' tk acc' c' kp e hacc => ?_
  have r' : Vals ((chars z).map V.str) acc'.toList := by
    rw [chars, List.map_map]
    refine vals_signs z.cps.toList acc'.toList (by rw [Array.length_toList, Array.length_toList]; exact hacc.1) fun j v hv => ?_
    obtain ⟨c, u, hc, ev⟩ := hacc.2 j v (by simpa using hv)
    exact ⟨c, u, by simpa using hc, ev⟩
  exact ⟨.ref s.heap.objs.size, _, I.laid (t' := tk) kp (Nat.le_refl _) (show ObjOk X.prog X.w _ h' _ (.lst ((chars z).map V.str)) from ⟨by rw [List.length_map, chars, List.length_map, Array.length_toList]; exact Nat.le_trans hz' (by decide), acc'.toList, c', r', e⟩), rfl, q _ (I.hok.fresh (Nat.le_refl _))⟩
end
end L2
namespace My
open PySem PySem.Spec PyProof.Rows L2
theorem DGs.ofS {S : Addr → Prop} {H : Hp} : ∀ {zs : List Str}, DGs S H (zs.map V.str) (zs.map PyData.str)
  | [] => .nil
  | z :: zs => .cons (.str z) DGs.ofS
theorem DG.lstU {S : Addr → Prop} {H : Hp} {v : V} {ds : List PyData} (h : DG S H v (.list ds)) : ∃ a xs, v = .ref a ∧ H a = some (.lst xs) ∧ ¬ S a ∧ DGs S H xs ds := by
  cases h with
  | lst h n hs => exact ⟨_, _, rfl, h, n, hs⟩
theorem new_nS {S : Addr → Prop} {H H' : Hp} {q : Addr} (hq : H' q = none) (s : Same H H') (dom : ∀ a, S a → H a ≠ none) : ¬ S q := fun z => dom _ z (by
  cases e : H q with
  | none => rfl
  | some u => rw [s _ _ e] at hq; cases hq)
theorem DGs.unstr {S : Addr → Prop} {H : Hp} : ∀ {zs : List Str} {vs : List V}, DGs S H vs (zs.map PyData.str) → vs = zs.map V.str
  | [], _, .nil => rfl
  | z :: zs, _, .cons a b => by cases a; rw [DGs.unstr b]; rfl
/-- z k times, sign by sign -/
def repT (z : Str) (k : Nat) : Str := ⟨(List.replicate k z.cps.toList).flatten.toArray⟩
theorem rep_eq (a : Array Nat) : ∀ (k : Nat) (b : Array Nat), ((List.replicate k a).foldl (· ++ ·) b) = b ++ (List.replicate k a.toList).flatten.toArray
  | 0, b => by simp
  | k + 1, b => by rw [List.replicate_succ, List.foldl_cons, rep_eq a k (b ++ a), List.replicate_succ, List.flatten_cons, List.append_toArray]; simp
section
variable {X : Cx} {ρ : Rho} {a b e o : Expr} {ds es : List PyData} {pos p apos : Pos} {k : Nat} {x : Str}
theorem d_catL (h : ED X ρ a (.list ds)) (h2 : ED X ρ b (.list es)) (l : ds.length + es.length ≤ 1000) : ED X ρ (.BinOp a .Add b pos) (.list (ds ++ es)) := fun S σ H Q sl q => by
  refine e_cat (h S σ H _ sl fun v1 H1 s1 g1 => h2 S σ H1 _ (sl.same s1) fun v2 H2 s2 g2 => ?_)
  obtain ⟨o, xs, rfl, ho, no, gx⟩ := DG.lstU g1
  obtain ⟨m, zs, rfl, hm, nm, gz⟩ := DG.lstU g2
  have l1 := gx.length
  have l2 := gz.length
  exact ⟨o, m, xs, zs, rfl, rfl, s2 _ _ ho, hm, Nat.le_trans (show xs.length + zs.length ≤ 1000 by omega) (by decide), fun q' hq => q _ _ ((s1.trans s2).trans (same_new hq)) (.lst upd_same (new_nS hq (s1.trans s2) sl.dom) (((gx.same s2).append gz).same (same_new hq)))⟩
/-- list * k -/
theorem d_mulL (h : ED X ρ a (.list ds)) (hb : ED X ρ b (.int (k : Int))) (h1 : ds.length ≤ 1000) (h2 : k ≤ 1000) : ED X ρ (.BinOp a .Mult b pos) (.list (List.replicate k ds).flatten) := fun S σ H Q sl q => by
  refine e_op op_mulL (h S σ H _ sl fun v H1 s1 g1 => hb S σ H1 _ (sl.same s1) fun u H2 s2 g2 => ?_)
  cases g2
  obtain ⟨o, xs, rfl, ho, no, gx⟩ := DG.lstU g1
  have l1 := gx.length
  exact ⟨o, _, xs, rfl, rfl, .inl (.inl (s2 _ _ ho)), by omega, by omega, by omega, fun q' hq => q _ _ ((s1.trans s2).trans (same_new hq)) (.lst upd_same (new_nS hq (s1.trans s2) sl.dom) (((gx.same s2).flat k).same (same_new hq)))⟩
/-- text * k -/
theorem d_mulS2 {z : Str} (h : ED X ρ a (.str z)) (hb : ED X ρ b (.int (k : Int))) (h0 : 1 ≤ z.length) (h1 : z.length ≤ 100) (h2 : 2 ≤ k) (h3 : k ≤ 10000) : ED X ρ (.BinOp a .Mult b pos) (.str (repT z k)) := fun S σ H Q sl q =>
  e_op op_mulS2 (h S σ H _ sl fun v H1 s1 g1 => hb S σ H1 _ (sl.same s1) fun u H2 s2 g2 => by
    cases g1; cases g2
    refine ⟨z, _, rfl, rfl, by omega, by omega, h0, h1, ?_⟩
    have e : (⟨(List.replicate ((k : Int)).toNat z.cps).foldl (· ++ ·) #[]⟩ : Str) = repT z k := by
      rw [rep_eq, Int.toNat_natCast, Array.empty_append]; rfl
    rw [e]
    exact q _ _ (s1.trans s2) (.str _))
theorem d_addS {y z : Str} (h : ED X ρ a (.str y)) (hb : ED X ρ b (.str z)) (l : y.length + z.length ≤ 100000) : ED X ρ (.BinOp a .Add b pos) (.str (y ++ z)) := fun S σ H Q sl q =>
  e_addS (h S σ H _ sl fun v H1 s1 g1 => hb S σ H1 _ (sl.same s1) fun u H2 s2 g2 => by
    cases g1; cases g2
    exact ⟨y, z, rfl, rfl, Nat.le_trans l (by decide), q _ _ (s1.trans s2) (.str _)⟩)
theorem d_listS {z : Str} (hm : X.mg "list" = none) (h : ED X ρ e (.str z)) (l : z.length ≤ 1000) (hc : X.calm = true := by rfl) (hg : Gl X "list" := by rfl)
    (he : starEach [e] X.env = (false, eval e X.env) :: starEach [] X.env := by rfl) (hpl : (backTo pos (starEach [] X.env)).any (·.1) = false := by rfl) : ED X ρ (.Call (.Name "list" p) [e] [] pos) (.list ((chars z).map PyData.str)) := fun S σ H Q sl q =>
  e_callT (call_list_ofS hc) hm PyProof.Rows.boot_list (a_cons (h S σ H _ sl fun v H1 s1 g1 => by
    cases g1
    exact a_nil ⟨z, rfl, l, fun q' hq => q _ _ (s1.trans (same_new hq)) (.lst upd_same (new_nS hq s1 sl.dom) DGs.ofS)⟩) he) hg (by decide) (by decide) he hpl
/-- sep.join(list) -/
theorem d_joinL {sep : Str} {zs : List Str} (ho : ED X ρ o (.str sep)) (h : ED X ρ e (.list (zs.map PyData.str))) (l : (zs.map (·.length)).sum + zs.length * sep.length ≤ 100000)
    (hs : starEach [e] X.env = [(false, eval e X.env)] := by rfl) (hbase : attributeBase o "join" X.env (eval o X.env) = eval o X.env := by rfl) (hline : (apos.endLine == pos.line) = true := by rfl) :
    ED X ρ (.Call (.Attribute o "join" apos) [e] [] pos) (.str (Txt.join sep zs)) := fun S σ H Q sl q =>
  e_join (ho S σ H _ sl fun v H1 s1 g1 => by
    cases g1
    refine ⟨sep, rfl, h S σ H1 _ (sl.same s1) fun v H2 s2 g2 => ?_⟩
    obtain ⟨m, xs, rfl, hm, nm, gx⟩ := DG.lstU g2
    rw [gx.unstr] at hm
    exact ⟨m, zs, rfl, .inl (.inl (.inl hm)), Nat.le_trans l (by decide), q _ _ (s1.trans s2) (.str _)⟩) hs hbase hline
/-- text[:i] -/
theorem d_slSto {z : Str} {i : Int} {hi : Expr} {p2 : Pos} (h : ED X ρ e (.str z)) (h1 : ED X ρ hi (.int i)) (l : z.length ≤ 1000) : ED X ρ (.Subscript e (.Slice none (some hi) none p2) pos) (.str (cutS z none (some i))) := fun S σ H Q sl q =>
  e_slSto (h S σ H _ sl fun v H1 s1 g1 => h1 S σ H1 _ (sl.same s1) fun u H2 s2 g2 => by
    cases g1; cases g2
    exact ⟨i, z, rfl, rfl, Nat.le_trans l (by decide), q _ _ (s1.trans s2) (.str _)⟩)
end
end My
namespace My
open PySem PySem.Spec PyProof.Rows L2
/-- y + z, sign by sign -/
def catT (y z : Str) : Str := ⟨(y.cps.toList ++ z.cps.toList).toArray⟩
theorem catT_eq (y z : Str) : y ++ z = catT y z := by
  have e : (y ++ z).cps = (catT y z).cps := by
    show y.cps ++ z.cps = _
    unfold catT
    simp
  cases h : (y ++ z) with
  | mk a => rw [h] at e; show (⟨a⟩ : Str) = ⟨(catT y z).cps⟩; rw [← e]
theorem catT_len (y z : Str) : (catT y z).length = y.length + z.length := by
  show (y.cps.toList ++ z.cps.toList).toArray.size = y.cps.size + z.cps.size
  simp
theorem repT_len (z : Str) (k : Nat) : (repT z k).length = k * z.length := by
  show (List.replicate k z.cps.toList).flatten.toArray.size = _
  rw [List.size_toArray, PyProof.Rows.lm_len_rep_flat]
  rfl
theorem catT_sm {y z : Str} (hy : Sm y) (hz : Sm z) : Sm (catT y z) := fun c hc => by
  have h : c ∈ y.cps.toList ++ z.cps.toList := by simpa [catT] using hc
  rcases List.mem_append.mp h with h | h
  · exact hy c h
  · exact hz c h
theorem repT_sm {z : Str} {k : Nat} (hz : Sm z) : Sm (repT z k) := fun c hc => by
  have h : c ∈ (List.replicate k z.cps.toList).flatten := by simpa [repT] using hc
  obtain ⟨l, h1, h2⟩ := List.mem_flatten.mp h
  rw [(List.mem_replicate.mp h1).2] at h2
  exact hz c h2
theorem d_addC {X : Cx} {ρ : Rho} {a b : Expr} {pos : Pos} {y z : Str} (h : ED X ρ a (.str y)) (hb : ED X ρ b (.str z)) (l : y.length + z.length ≤ 100000) : ED X ρ (.BinOp a .Add b pos) (.str (catT y z)) := catT_eq y z ▸ d_addS h hb l
end My

namespace K02
open PySem PySem.Spec PyProof.Rows L2 My
abbrev sSome : Stmt := top 24
theorem erase_map : ∀ (ws : List Str) (k : Nat), (ws.map V.str).eraseIdx k = (ws.eraseIdx k).map V.str
  | [], _ => rfl
  | _ :: _, 0 => rfl
  | w :: ws, k + 1 => by show V.str w :: (ws.map V.str).eraseIdx k = V.str w :: (ws.eraseIdx k).map V.str; rw [erase_map ws k]
theorem seq_nat {d n : Nat} (h : d < n) : seqIndex? (d : Int) n = some d := by
  rw [PySem.seqIndex_of (by omega) (by omega)]
  simp
structure Bn (mg : Str → Option Value) : Prop where
  list : mg "list" = none
  len : mg "len" = none
  range : mg "range" = none
  min : mg "min" = none
  sorted : mg "sorted" = none
  tuple : mg "tuple" = none
def PreSome (ds : List PyData) : Prop := ∃ (zs : List Str) (most : Nat), ds = [.list (zs.map .str), .int most] ∧ zs.length ≤ 20 ∧ most ≤ 20
def PhiSome (ds : List PyData) (d : PyData) : Prop := ∀ (zs : List Str) (most : Nat), ds = [.list (zs.map .str), .int most] → ∃ ys rest : List Str, d = .list (ys.map .str) ∧ (ys ++ rest).Perm zs ∧ ys.length ≤ most
theorem erase_perm : ∀ (ws : List Str) (d : Nat) (h : d < ws.length), (ws[d] :: ws.eraseIdx d).Perm ws
  | w :: ws, 0, _ => List.Perm.refl _
  | w :: ws, d + 1, h => (List.Perm.swap w _ _).trans ((erase_perm ws d (Nat.lt_of_succ_lt_succ h)).cons w)
theorem perm_step (ws ys : List Str) {d : Nat} (h : d < ws.length) : ((ys ++ [ws[d]]) ++ ws.eraseIdx d).Perm (ys ++ ws) := by
  rw [List.append_assoc]
  refine List.Perm.append_left ys ?_
  exact erase_perm ws d h
section
variable {P : Program} {w : World} {K : PySem.W.Frag} {mg : Str → Option Value} {base : Heap}
theorem scSome : FnScope ["_law_pen_here", "_law_pool", "_law_most", "_law_rest", "_law_turn"] ["_law_pen_here", "_law_pool", "_law_most"] (defScope sSome) := ⟨rfl, rfl, rfl, by decide +kernel, rfl, by decide +kernel, by decide +kernel⟩
theorem ok_some {f : Addr} {fd : FuncData} (F : Fun K "_law_some" "_law_some" sSome f fd) (G : Bn mg) (cD : CalN P w K mg base 2 "_law_draw" spDraw) : FnOk P w K mg base CX0 3 f fd ["_law_pen_here", "_law_pool", "_law_most"] (spGen PreSome PhiSome 100) := by
  refine Fun.okW F scSome (fun vs H Q E ⟨p, L, n, S0, ws, ds, e, _, _, g, _, _, ⟨zs, most, e2, _⟩, _⟩ => by rw [e, List.length_cons, g.length, e2]; rfl) (fun cdv B out s H vs Q E hr h => ?_)
  obtain ⟨p, L, n, S, ws0, ds, rfl, sp, dom, g0, Pn, hn, ⟨zs, most, rfl, hz, hm⟩, q⟩ := h
  cases g0 with
  | cons gp r0 => cases r0 with
    | cons gm r0 =>
      cases r0
      cases gm
      obtain ⟨pool, xs0, rfl, hpool, nSp, gxs⟩ := DG.lstU gp
      have exs := gxs.unstr
      subst exs
      have npp : pool ≠ p := fun e => nSp (e ▸ sp)
      refine l_cons (s_set 3 (e_listL G.list (e_var 1 rfl ⟨pool, _, rfl, .inl (.inl (.inl hpool)), fun r hr0 => ?_⟩)) scSome.nd)
      have nrp : r ≠ p := Pn.newP hr0
      have nrL : r ≠ L := Pn.newL hr0
      have s1 := same_new (o := .lst (zs.map V.str)) hr0
      have P1 := Pn.same s1
      have r1 : (upd H r (.lst (zs.map V.str))) r = some (.lst (zs.map V.str)) := upd_same
      generalize hH1 : upd H r (.lst (zs.map V.str)) = H1 at s1 P1 r1
      refine l_one (s_ret (e_lcR 4 G.range scSome.nd (blkOk_by (N := ["_law_pen_here", "_law_pool", "_law_most", "_law_rest", "_law_turn"]) (sc := defScope sSome) (by decide +kernel)) (e_c cD hr (by decide) (a_cons (e_var 0 rfl (a_cons (e_addI (e_min G.min (e_var 2 rfl (e_len G.len (e_var 3 rfl ⟨r, _, rfl, .inl (.inl (.inl r1)), most, _, rfl, rfl, ?_⟩)))))))) ) (fun _ _ _ _ _ => pg_name (i := 4) scSome.nd rfl (Or.inl rfl))))
      rw [List.length_map]
      generalize hk : (if (zs.length : Int) < (most : Int) then (zs.length : Int) else (most : Int)) = kk
      have k0 : 0 ≤ kk ∧ kk ≤ most ∧ kk ≤ zs.length := by rw [← hk]; split <;> omega
      refine e_int ⟨kk, 1, rfl, rfl, a_nil ⟨p, L, n, kk + 1, rfl, P1, by omega, by omega, by omega, fun d H2 b2 P2 hd => ⟨d, rfl, by omega, fun D nD => ?_⟩⟩⟩
      have r2 := b2 _ _ nrp r1
      have nDp : D ≠ p := P2.newP nD
      have nDL : D ≠ L := P2.newL nD
      have nDr : D ≠ r := (ne_of_none r2 nD).symm
      refine ⟨fun i H3 => ∃ ws ys : List Str, (∀ b o, b ≠ p → b ≠ r → H1 b = some o → H3 b = some o) ∧ Pen H3 p L (n + 1 + i) ∧ H3 r = some (.lst (ws.map V.str)) ∧ H3 D = some (.lst (ys.map V.str)) ∧ ws.length + i = zs.length ∧ ys.length = i ∧ (ys ++ ws).Perm zs, ?_, ?_, ?_⟩
      · refine ⟨zs, [], fun b o nb _ h => same_mut (Same.refl H2) nD b o (b2 b o nb h), P2.same (same_new nD), by rw [upd_ne nDr.symm]; exact r2, upd_same, by omega, rfl, List.Perm.refl _⟩
      · rintro i H3 hi ⟨ws, ys, k1, k2, k3, k4, k5, k6, k7⟩ s0 H00 C cl fp
        have hw : 0 < ws.length := by omega
        refine e_pop (e_var 3 rfl ⟨⟨r, _, rfl, .inl (.inl k3)⟩, e_c cD hr (by decide) (a_cons (e_var 0 rfl (a_cons (e_len G.len (e_var 3 rfl ⟨r, _, rfl, .inl (.inl (.inl k3)), a_nil ⟨p, L, n + 1 + i, _, rfl, k2, by omega, ?_, ?_, fun d' H4 b4 P4 hd' => ?_⟩⟩)))))⟩)
        · rw [List.length_map]; omega
        · rw [List.length_map]; omega
        rw [List.length_map] at hd'
        have hd2 : d' < ws.length := by omega
        have r4 := b4 _ _ nrp k3
        have d4 := b4 _ _ nDp k4
        refine ⟨r, _, d', d', .str ws[d'], rfl, rfl, r4, by omega, by omega, seq_nat (by rw [List.length_map]; exact hd2), by rw [List.getElem?_map, List.getElem?_eq_getElem hd2]; rfl, ?_⟩
        have g4 : (upd H4 r (.lst ((ws.map V.str).eraseIdx d'))) D = some (.lst (ys.map V.str)) := by rw [upd_ne nDr]; exact d4
        refine ⟨_, g4, ?_, ws.eraseIdx d', ys ++ [ws[d']], fun b o nb nr h => ?_, ?_, ?_, ?_, ?_, ?_, ?_⟩
        · rw [List.length_map, k6]
          exact Nat.lt_of_lt_of_le (show i < 100 by omega) (by decide)
        · have nbD : b ≠ D := fun e => by
            subst e
            have : H1 b = none := by
              cases z : H1 b with
              | none => rfl
              | some o2 => rw [b2 b o2 nDp z] at nD; cases nD
            rw [this] at h
            cases h
          rw [upd_ne nbD, upd_ne nr]
          exact b4 b o nb (k1 b o nb nr h)
        · exact (P4.upd nrp nrL).upd nDp nDL
        · rw [upd_ne nDr.symm, upd_same, erase_map]
        · rw [upd_same, List.map_append]
          rfl
        · rw [List.length_eraseIdx_of_lt hd2]; omega
        · rw [List.length_append, k6]; rfl
        · exact (perm_step ws ys hd2).trans k7
      · rintro H3 ⟨ws, ys, k1, k2, k3, k4, k5, k6, k7⟩
        refine q (.ref D) (.list (ys.map .str)) H3 (fun b o nb h => ?_) (k2.mono (by omega)) (.lst k4 (fun z => ?_) (DGs.strs ys)) fun zs' most' e => ?_
        · have nbr : b ≠ r := ne_of_none h hr0
          exact k1 b o nb nbr (s1 b o h)
        · have hD : H D = none := by
            cases z2 : H D with
            | none => rfl
            | some o2 => rw [b2 D o2 nDp (s1 D o2 z2)] at nD; cases nD
          exact dom D z hD
        · injection e with e1 e2
          injection e2 with e2 _
          injection e1 with e1
          injection e2 with e2
          have ez : zs' = zs := by
            have := congrArg (List.map My.strOf) e1
            rw [List.map_map, List.map_map] at this
            have i1 : (My.strOf ∘ PyData.str) = (id : Str → Str) := rfl
            rw [i1, List.map_id, List.map_id] at this
            exact this.symm
          subst ez
          exact ⟨ys, ws, rfl, k7, by omega⟩
abbrev wPool : List Str := ["a", "b", "c", "ulm"]
/-- values as drawn: ascending, of the pool, one to three -/
def Wor (d : PyData) : Prop := ∃ zs : List Str, d = .tuple (zs.map .str) ∧ 1 ≤ zs.length ∧ zs.length ≤ 3 ∧ ascS zs = true ∧ ∀ z ∈ zs, z ∈ wPool
theorem asc_srt {zs : List Str} (h : zs.Nodup) : ascS (srt zs) = true := by
  have hn : (srt zs).Nodup := (srt_perm zs).nodup_iff.mpr h
  rw [asc_iff]
  exact ((srt_pw zs).and hn).imp fun ⟨h1, h2⟩ => by
    rename_i a b
    apply Classical.byContradiction
    intro h3
    exact h2 (lt_tri h3 h1)
theorem srt_mem {zs : List Str} {z : Str} : z ∈ srt zs ↔ z ∈ zs := (srt_perm zs).mem_iff
theorem wPool_small : ∀ z ∈ wPool, valS z = true := by decide +kernel
theorem shaped_vals {zs : List Str} (h : ∀ z ∈ zs, z ∈ wPool) : zs.all valS = true := List.all_eq_true.mpr fun z hz => wPool_small z (h z hz)
end
end K02

namespace My
open PySem PySem.Spec PyProof.Rows L2
/-! ### sets of tuples whose parts are ints and texts -/
abbrev KT (P : Program) (w : World) (h : Heap) (k : List Key) (a : Addr) : Prop := IsTupleKey (mixKind P w) h k a
abbrev kh (P : Program) (w : World) (k : List Key) : Int := tupleKeyHash (mixKind P w) k
theorem part_cls (n : Nat) {k : Key} {v : Value} (h : keyIs k v = true) : ofAClassStatement n v = pure false := by
  rcases keyIs_shape h with ⟨i, t, rfl, rfl⟩ | ⟨x, t, rfl, rfl⟩ <;> cases n <;> rfl
theorem part_by (n : Nat) {k : Key} {v : Value} (h : keyIs k v = true) : ∃ b, hashByValue n v = pure b := by
  rcases keyIs_shape h with ⟨i, t, rfl, rfl⟩ | ⟨x, t, rfl, rfl⟩
  · exact ⟨true, by cases n <;> rfl⟩
  · exact ⟨false, by cases n <;> rfl⟩
section
variable {P : Program} {w : World} {A : Around} {E : Value → Shared → Prop} {s : Shared}
theorem parts_all {k : List Key} {vs : List Value} (h : ItemsAre (mixKind P w) k vs) : ∀ v ∈ vs, ∃ c : Key, keyIs c v = true := by
  induction h with
  | nil => intro v hv; cases hv
  | @cons c u ks us q _ ih =>
    intro v hv
    rcases List.mem_cons.mp hv with rfl | hv
    · exact ⟨c, q⟩
    · exact ih v hv
theorem kt_cls {k : List Key} {b : Addr} {Q : Bool → Shared → Prop} (x : KT P w s.heap k b) (q : Q false s) : wpAny (model P w) A (ofAClassStatement 8 (.ref b)) Q E s := by
  have ty := x.typeIs
  obtain ⟨ob, its, m, g, _, dt, ia⟩ := x
  unfold ofAClassStatement
  refine wpAny_bind (wpAny_typeOf ty ?_)
  dsimp only
  have tt : (("tuple" : String) == "tuple") = true := by decide
  simp only [tt, if_true, Bool.not_true, Bool.false_eq_true, if_false]
  try refine wpAny_bind (wpAny_pure ?_)
  try simp only [Bool.not_true, Bool.false_eq_true, if_false]
  show wpAny _ _ (seqItems? (Value.ref b) >>= _) _ _ s
  refine wpAny_bind (wpAny_seqItems g dt ?_)
  dsimp only
  refine wpAny_bind ?_
  show wpAny _ _ (forIn its _ _) _ _ s
  rw [← Array.forIn_toList]
  refine wpAny_forIn_list _ (fun left r z => r.1 = none ∧ z = s ∧ ∀ v ∈ left, ∃ c : Key, keyIs c v = true) _ ?_ ?_ _ _ ⟨rfl, rfl, parts_all ia⟩
  · rintro v left r z ⟨_, rfl, al⟩
    obtain ⟨c, hc⟩ := al v List.mem_cons_self
    rw [part_cls _ hc]
    refine wpAny_bind (wpAny_pure ?_)
    simp only [Bool.false_eq_true, if_false]
    exact wpAny_pure ⟨rfl, rfl, fun u hu => al u (List.mem_cons_of_mem _ hu)⟩
  · rintro ⟨r1, r2⟩ z ⟨e, rfl, _⟩
    simp only at e
    subst e
    exact wpAny_pure q
theorem kt_by {k : List Key} {b : Addr} {Q : Bool → Shared → Prop} (x : KT P w s.heap k b) (q : ∀ c, Q c s) : wpAny (model P w) A (hashByValue 8 (.ref b)) Q E s := by
  have ty := x.typeIs
  obtain ⟨ob, its, m, g, _, dt, ia⟩ := x
  unfold hashByValue
  refine wpAny_bind (wpAny_specialOf ty F.slot_tuple_hash.lookup ?_)
  show wpAny _ _ (seqItems? (Value.ref b) >>= _) _ _ s
  refine wpAny_bind (wpAny_seqItems g dt ?_)
  refine wpAny_bind ?_
  show wpAny _ _ (forIn its _ _) _ _ s
  rw [← Array.forIn_toList]
  refine wpAny_forIn_list _ (fun left r z => (r.1 = none ∨ ∃ c, r.1 = some c) ∧ z = s ∧ ∀ v ∈ left, ∃ c : Key, keyIs c v = true) _ ?_ ?_ _ _ ⟨.inl rfl, rfl, parts_all ia⟩
  · rintro v left r z ⟨_, rfl, al⟩
    obtain ⟨c, hc⟩ := al v List.mem_cons_self
    obtain ⟨bb, e⟩ := part_by 7 hc
    rw [e]
    refine wpAny_bind (wpAny_pure ?_)
    cases bb with
    | true =>
      simp only [Bool.not_true, Bool.false_eq_true, if_false]
      exact wpAny_pure ⟨.inl rfl, rfl, fun u hu => al u (List.mem_cons_of_mem _ hu)⟩
    | false =>
      simp only [Bool.not_false, if_true]
      exact wpAny_pure (wpAny_pure (q _))
  · rintro ⟨r1, r2⟩ z ⟨e, rfl, _⟩
    simp only at e
    rcases e with rfl | ⟨c, rfl⟩
    · exact wpAny_pure (q _)
    · exact wpAny_pure (q _)
/-! ### the set's table -/
def kRows (P : Program) (w : World) (L : List (Addr × List Key)) : List (Int × Value) := L.map fun e => (kh P w e.2, .ref e.1)
structure KSet (P : Program) (w : World) (h : Heap) (a : Addr) (L : List (Addr × List Key)) (es : Array (Int × Value)) (ep : Nat) (t : SetTable) : Prop where
  ob : ∃ o, h.get? a = some o ∧ o.ExactSet ∧ o.data = .set es ep t
  rws : es.toList = kRows P w L
  tb : TabOk t (L.map fun e => kh P w e.2)
  nd : (L.map (·.2)).Nodup
  tp : ∀ e ∈ L, KT P w h e.2 e.1
  ld : w.params.followText "set-order" = true ∨ t.led = true
  rm : L.length * 5 < t.mask * 3
  fw : L.length < 64
theorem kRows_len (L : List (Addr × List Key)) : (kRows P w L).length = L.length := by unfold kRows; rw [List.length_map]
variable {a : Addr} {L : List (Addr × List Key)} {es : Array (Int × Value)} {ep : Nat} {t : SetTable}
theorem KSet.sz (R : KSet P w s.heap a L es ep t) : es.size = L.length := by rw [← Array.length_toList, R.rws, kRows_len]
theorem KSet.fts (R : KSet P w s.heap a L es ep t) : t.fits es.size = true := by
  have h1 := R.tb.sz
  have h2 := R.sz
  have h3 := R.rm
  rw [List.length_map] at h1
  unfold SetTable.fits SetTable.fill
  rw [R.tb.dm, Bool.and_eq_true, beq_iff_eq, decide_eq_true_eq]
  exact ⟨by omega, by show t.place.size + 0 ≤ t.mask; omega⟩
theorem KSet.row (R : KSet P w s.heap a L es ep t) {i : Nat} {e : Addr × List Key} (h : L[i]? = some e) : es[i]? = some (kh P w e.2, Value.ref e.1) := by
  rw [← Array.getElem?_toList, R.rws]
  unfold kRows
  rw [List.getElem?_map, h]; rfl
theorem KSet.hashAt (R : KSet P w s.heap a L es ep t) {i : Nat} {e : Addr × List Key} (h : L[i]? = some e) : (es[i]?.map (·.1)).getD 0 = kh P w e.2 := by rw [R.row h]; rfl
theorem KSet.whole (R : KSet P w s.heap a L es ep t) : ¬ t.gaveWay = true := by
  unfold SetTable.gaveWay
  rw [mask_odd R.tb.mok]
  decide
/-- a look among such tuples shows nothing -/
theorem kt_unseen {k : List Key} {b : Addr} {Q : Bool → Shared → Prop} (x : KT P w s.heap k b) {ys : List Value} (hy : ∀ y ∈ ys, ∃ j c, y = Value.ref c ∧ KT P w s.heap j c) (q : Q false s) :
    wpAny (model P w) A (searchCouldBeSeen (.ref b) ys) Q E s := by
  unfold searchCouldBeSeen
  refine wpAny_bind ?_
  refine wpAny_forIn_list _ (fun left r z => r.1 = none ∧ z = s ∧ ∀ y ∈ left, ∃ j c, y = Value.ref c ∧ KT P w s.heap j c) _ ?_ ?_ _ _ ⟨rfl, rfl, hy⟩
  · rintro v left r z ⟨_, rfl, al⟩
    obtain ⟨j, c, rfl, y⟩ := al v List.mem_cons_self
    have nx : ∀ u ∈ left, ∃ j c, u = Value.ref c ∧ KT P w z.heap j c := fun u hu => al u (List.mem_cons_of_mem _ hu)
    dsimp only
    by_cases hv : (b == c || (carriedByValue (.ref b) && carriedByValue (.ref c))) = true
    · exact wp_if_pos hv (wpAny_pure ⟨rfl, rfl, nx⟩)
    · refine wp_if_neg hv (wpAny_bind (wpAny_eqIsQuiet_tuple x ?_))
      simp only [Bool.not_true, Bool.false_eq_true, if_false]
      refine wpAny_bind (wpAny_eqIsQuiet_tuple y ?_)
      simp only [Bool.not_true, Bool.false_eq_true, if_false]
      refine wpAny_bind (kt_cls x ?_)
      simp only [Bool.false_eq_true, if_false]
      refine wpAny_bind (kt_cls y ?_)
      simp only [Bool.false_eq_true, if_false]
      exact wpAny_pure ⟨rfl, rfl, nx⟩
  · rintro ⟨r1, r2⟩ z ⟨e, rfl, _⟩
    simp only at e
    subst e
    exact wpAny_pure q
abbrev stepAt (t : SetTable) (h : Int) (c : Nat) : SetTable.Probe := nth t.mask (runAt t.mask (SetTable.bits h % (t.mask + 1)) (SetTable.bits h)) c
theorem step_dm (t : SetTable) (h : Int) (c : Nat) : (stepAt t h c).dummy = none := by
  have go : ∀ (n : Nat) (p : SetTable.Probe), p.dummy = none → (nth t.mask p n).dummy = none := fun n => by
    induction n with
    | zero => exact fun p e => e
    | succ n ih => exact fun p e => ih (adv t.mask p) (by unfold adv; split <;> exact e)
  exact go c _ rfl
/-- the search from the c-th step of the way on; K: the first empty place on it -/
theorem k_from (R : KSet P w s.heap a L es ep t) {x : Addr} {k : List Key} (hx : KT P w s.heap k x) (hu : A.units < cLine) {K : Nat} (bK : K < 10 * SetTable.turns t.mask)
    (eK : way t.mask (kh P w k) K ∉ t.place.toList) (oK : ∀ c, c < K → way t.mask (kh P w k) c ∈ t.place.toList) {Q : SetFound → Shared → Prop}
    (q1 : k ∈ L.map (·.2) → Q (.there none) s) (q2 : k ∉ L.map (·.2) → Q (.free (way t.mask (kh P w k) K) false) s) :
    ∀ (f c : Nat) (st : Option SetTable.Probe), st.getD (t.probeStart (kh P w k)) = stepAt t (kh P w k) c → c ≤ K → K - c < f →
      (∀ (i : Nat) e, L[i]? = some e → e.2 = k → ∃ c', c ≤ c' ∧ c' < K ∧ t.place.toList[i]? = some (way t.mask (kh P w k) c')) →
      wpAny (model P w) A (setSearchFrom a (.ref x) (kh P w k) true f st) Q E s
  | 0, _, _, _, _, l, _ => absurd l (Nat.not_lt_zero _)
  | f + 1, c, st, e0, lc, lf, on => by
    obtain ⟨o, g, ex, dt⟩ := R.ob
    have ff := R.fts
    rw [setSearchFrom_succ]
    refine wpAny_bind (wpAny_setState_of g dt ff ?_)
    dsimp only
    refine wp_if_neg R.whole ?_
    try refine wpAny_bind (wpAny_pure ?_)
    have ad : ∀ q, nth t.mask (stepAt t (kh P w k) c) q = stepAt t (kh P w k) (c + q) := fun q => (nth_add t.mask c _ q).symm
    have aj : ∀ q, (nth t.mask (stepAt t (kh P w k) c) q).j = way t.mask (kh P w k) (c + q) := fun q => congrArg SetTable.Probe.j (ad q)
    have here : c + (K - c) = K := by omega
    have look := go_spec t R.tb.ris R.tb.dm (fun i => (es[i]?.map (·.1)).getD 0) (kh P w k) (10 * SetTable.turns t.mask) (K - c) _ (step_dm t _ c) (by omega)
      (fun q l => by rw [aj]; exact oK (c + q) (by omega)) (by rw [aj, here]; exact eK)
    have inP : ∀ {i : Nat} {j : Nat}, t.place.toList[i]? = some j → i < L.length := fun {i j} e => by
      have h1 := (List.getElem?_eq_some_iff.mp e).1
      have h2 := R.tb.sz
      rw [List.length_map] at h2
      rw [Array.length_toList] at h1
      omega
    have old : ∀ {i0 : Nat} {e2 : Addr × List Key}, L[i0]? = some e2 → e2.2 = k → (es[i0]?.map (·.1)).getD 0 = kh P w k := fun h1 h2 => (R.hashAt h1).trans (congrArg (kh P w) h2)
    rcases look with ⟨q, i, lq, pi, ph, pn, pr⟩ | ⟨pn, pr⟩
    · -- some row with this hash
      have pr' : t.probe (fun i => (es[i]?.map (·.1)).getD 0) (kh P w k) (st.getD (t.probeStart (kh P w k))) = some (.candidate (way t.mask (kh P w k) (c + q)) i (stepAt t (kh P w k) (c + (q + 1)))) := by
        rw [e0, ← aj, ← ad]; exact pr
      rw [pr']
      dsimp only
      rw [aj] at pi
      have li := inP pi
      have hL : L[i]? = some L[i] := List.getElem?_eq_getElem li
      generalize L[i] = e at hL
      have mL : e ∈ L := List.mem_of_getElem? hL
      have go : wpAny (model P w) A (searchRest a (.ref x) (kh P w k) true f es t (way t.mask (kh P w k) (c + q)) i (stepAt t (kh P w k) (c + (q + 1)))) Q E s := by
        unfold searchRest
        rw [R.row hL]
        dsimp only
        refine wpAny_bind (wpAny_holding (wpAny_eqBool_tuple hu (R.tp e mL) hx ?_))
        refine wpAny_bind (wpAny_setState_of g dt ff ?_)
        dsimp only
        by_cases ek : e.2 = k
        · exact wp_if_pos (by simp [ek]) (wpAny_pure (q1 (List.mem_map.mpr ⟨e, mL, ek⟩)))
        · refine wp_if_neg (by simp [ek]) ?_
          try refine wpAny_bind (wpAny_pure ?_)
          rw [sameMem]
          dsimp only
          have sl : t.slot (way t.mask (kh P w k) (c + q)) = .live i := slot_live R.tb.ris pi
          simp only [if_true, sl, R.row hL]
          refine wpAny_bind (wpAny_isSame_ref_self (wpAny_bind (wpAny_pure ?_)))
          simp only [if_true]
          refine wp_if_neg (by simp [ek]) (k_from R hx hu bK eK oK q1 q2 f (c + (q + 1)) _ rfl (by omega) (by omega) fun i0 e2 h1 h2 => ?_)
          obtain ⟨c', a1, a2, a3⟩ := on i0 e2 h1 h2
          refine ⟨c', ?_, a2, a3⟩
          rcases Nat.lt_trichotomy c' (c + q) with z | z | z
          · exact (pn (c' - c) i0 (by omega) (by rw [aj, show c + (c' - c) = c' by omega]; exact a3) (old h1 h2)).elim
          · exfalso
            rw [z] at a3
            have s0 := slot_live R.tb.ris a3
            rw [sl] at s0
            injection s0 with s0
            rw [← s0, hL] at h1
            exact ek ((congrArg Prod.snd (Option.some.inj h1)).trans h2)
          · omega
      by_cases hl : t.led = true
      · refine wp_if_neg (by simp [hl]) ?_
        try refine wpAny_bind (wpAny_pure ?_)
        exact go
      · refine wp_if_pos (by simp [hl]) (wpAny_bind (kt_unseen hx (fun y hy => ?_) ?_))
        · obtain ⟨r, hr, rfl⟩ := List.mem_map.mp hy
          have h1 : r ∈ es ∧ r.1 = kh P w k := by simpa using hr
          have h2 : r ∈ es.toList := by simpa using h1.1
          rw [R.rws] at h2
          obtain ⟨e2, m2, rfl⟩ := List.mem_map.mp h2
          exact ⟨e2.2, e2.1, rfl, R.tp e2 m2⟩
        · refine wp_if_neg (by decide) ?_
          try refine wpAny_bind (wpAny_pure ?_)
          exact go
    · -- the empty place
      have pr' : t.probe (fun i => (es[i]?.map (·.1)).getD 0) (kh P w k) (st.getD (t.probeStart (kh P w k))) = some (.empty (way t.mask (kh P w k) K) none) := by
        have e2 : way t.mask (kh P w k) K = (nth t.mask (stepAt t (kh P w k) c) (K - c)).j := by rw [aj, here]
        rw [e0, e2]; exact pr
      rw [pr']
      dsimp only
      refine wpAny_pure (q2 fun m => ?_)
      obtain ⟨e2, m2, k2⟩ := List.mem_map.mp m
      obtain ⟨i0, l0, g0⟩ := List.getElem_of_mem m2
      have h1 : L[i0]? = some e2 := by rw [List.getElem?_eq_getElem l0, g0]
      obtain ⟨c', a1, a2, a3⟩ := on i0 e2 h1 k2
      exact pn (c' - c) i0 (by omega) (by rw [aj, show c + (c' - c) = c' by omega]; exact a3) (old h1 k2)
theorem k_search (R : KSet P w s.heap a L es ep t) {x : Addr} {k : List Key} (hx : KT P w s.heap k x) (hu : A.units < cLine) {Q : SetFound → Shared → Prop} (q1 : k ∈ L.map (·.2) → Q (.there none) s)
    (q2 : ∀ K, k ∉ L.map (·.2) → way t.mask (kh P w k) K ∉ t.place.toList → (∀ c, c < K → way t.mask (kh P w k) c ∈ t.place.toList) → Q (.free (way t.mask (kh P w k) K) false) s) :
    wpAny (model P w) A (setSearch a (.ref x) (kh P w k) true) Q E s := by
  have rm := R.rm
  obtain ⟨K, bK, eK, oK⟩ := R.tb.first (by rw [List.length_map]; omega) (kh P w k)
  have few : K < 100000 := by
    have : 10 * SetTable.turns t.mask ≤ 1420 := by
      unfold SetTable.turns
      rcases R.tb.mok with e | e | e <;> omega
    omega
  unfold setSearch
  refine k_from R hx hu bK eK oK q1 (fun no => q2 K no eK oK) 100000 0 none rfl (Nat.zero_le _) (by omega) fun i e he hk => ?_
  have h1 : (L.map fun e => kh P w e.2)[i]? = some (kh P w k) := by rw [List.getElem?_map, he, ← hk]; rfl
  have h2 : i < t.place.toList.length := by
    have l1 := (List.getElem?_eq_some_iff.mp he).1
    have l2 := R.tb.sz
    rw [List.length_map] at l2
    rw [Array.length_toList]
    omega
  obtain ⟨c, lc, ec⟩ := R.tb.before eK h1 (List.getElem?_eq_getElem h2)
  exact ⟨c, Nat.zero_le _, lc, by rw [List.getElem?_eq_getElem h2, ec]⟩
theorem kt_away {h h' : Heap} {k : List Key} {a b : Addr} {o : Obj} {es : Array (Int × Value)} {ep : Nat} {t : SetTable} (x : KT P w h k b) (g : h.get? a = some o) (dt : o.data = .set es ep t) (sb : Heap.SameBut a h h') : KT P w h' k b := by
  obtain ⟨u, its, m, gu, cu, du, ia⟩ := x
  have ne : b ≠ a := fun z => by
    rw [z] at gu
    have e := Option.some.inj (gu.symm.trans g)
    rw [← e, du] at dt
    cases dt
  exact ⟨u, its, m, (sb.2 b ne).trans gu, cu, du, ia⟩
theorem kRows_ins (L : List (Addr × List Key)) (p : Nat) (e : Addr × List Key) : kRows P w (L.take p ++ e :: L.drop p) = (kRows P w L).take p ++ (kh P w e.2, Value.ref e.1) :: (kRows P w L).drop p := by
  unfold kRows
  simp only [List.map_append, List.map_cons, List.map_take, List.map_drop]
theorem pick_rows (L : List (Addr × List Key)) (es : Array (Int × Value)) (er : es.toList = kRows P w L) : ∀ l : List Nat, (∀ i ∈ l, i < L.length) →
    ∃ L2 : List (Addr × List Key), l.filterMap (fun i => es[i]?) = kRows P w L2 ∧ L2 = l.filterMap (fun i => L[i]?) ∧ (L2.map fun e => kh P w e.2) = l.map fun i => (es.map (·.1)).getD i 0
  | [], _ => ⟨[], rfl, rfl, rfl⟩
  | i :: l, h => by
    obtain ⟨L2, e1, e2, e3⟩ := pick_rows L es er l fun j m => h j (List.mem_cons_of_mem _ m)
    have li := h i List.mem_cons_self
    have g : es[i]? = some (kh P w (L[i]).2, Value.ref (L[i]).1) := by
      rw [← Array.getElem?_toList, er]
      unfold kRows
      rw [List.getElem?_map, List.getElem?_eq_getElem li]; rfl
    refine ⟨L[i] :: L2, ?_, ?_, ?_⟩
    · rw [List.filterMap_cons_some g, e1]; rfl
    · rw [List.filterMap_cons_some (List.getElem?_eq_getElem li), e2]
    · rw [List.map_cons, List.map_cons, e3]
      have g2 : (es.map (·.1))[i]? = some (kh P w (L[i]).2) := by rw [Array.getElem?_map, g]; rfl
      rw [Array.getD_eq_getD_getElem?, g2]; rfl
theorem pick_all {α : Type} (L : List α) : ∀ n, n ≤ L.length → (List.range n).filterMap (fun i => L[i]?) = L.take n
  | 0, _ => rfl
  | n + 1, h => by
    rw [List.range_succ, List.filterMap_append, pick_all L n (by omega), List.take_succ, List.filterMap_cons, List.getElem?_eq_getElem (show n < L.length by omega)]
    rfl
/-- the rows laid in a larger table -/
theorem k_relay {o : Obj} (g : s.heap.get? a = some o) (ex : o.ExactSet) (dt : o.data = .set es ep t) (er : es.toList = kRows P w L) (tz : t.place.size = es.size) (td : t.dummies = #[]) (tf : es.size ≤ t.mask)
    (nd : (L.map (·.2)).Nodup) (tp : ∀ e ∈ L, KT P w s.heap e.2 e.1) (ld : w.params.followText "set-order" = true ∨ t.led = true) (fw : L.length < 64) {wn M : Nat}
    (wM : SetTable.sizeAbove wn - 1 = M) (mM : MaskOk M) (w128 : SetTable.sizeAbove wn ≤ 128) (rM : L.length * 5 < M * 3) {Q : Unit → Shared → Prop}
    (q : ∀ h' L' es' ep' t', Heap.SameBut a s.heap h' → KSet P w h' a L' es' ep' t' → L'.Perm L → Q () { s with heap := h' }) : wpAny (model P w) A (setRelay a wn) Q E s := by
  have el : es.size = L.length := by rw [← Array.length_toList, er, kRows_len]
  have ff : t.fits es.size = true := by
    unfold SetTable.fits SetTable.fill
    rw [td, Bool.and_eq_true, beq_iff_eq, decide_eq_true_eq]
    exact ⟨tz, by show t.place.size + 0 ≤ t.mask; omega⟩
  obtain ⟨t2, od, e0, pm, T, tm, tl, _, _⟩ := relaid_ok t (hs := es.map (·.1)) (wanted := wn) wM mM (by rw [Array.size_map, el]; omega)
  rw [Array.size_map, el] at pm
  obtain ⟨L2, r1, r2, r3⟩ := pick_rows L es er od.toList fun i m => List.mem_range.mp (pm.mem_iff.mp m)
  have p2 : L2.Perm L := by
    have h1 := pm.filterMap fun i => L[i]?
    rw [← r2, pick_all L L.length (Nat.le_refl _), List.take_length] at h1
    exact h1
  rw [← r3] at T
  have r1' : (od.filterMap (es[·]?)).toList = kRows P w L2 := by rw [Array.toList_filterMap]; exact r1
  have z2 : (od.filterMap (es[·]?)).size = L.length := by rw [← Array.length_toList, r1', kRows_len, p2.length_eq]
  rw [setRelay_eq]
  refine wpAny_bind (wpAny_setState_of g dt ff ?_)
  dsimp only
  refine wp_if_neg (by rw [sizeLine_eq]; omega) ?_
  try refine wpAny_bind (wpAny_pure ?_)
  rw [e0]
  dsimp only
  refine wpAny_bind (wp_if_neg (by rw [z2, el]; simp) ?_)
  try refine wpAny_bind (wpAny_pure ?_)
  refine wpAny_pure ?_
  dsimp only
  refine wpAny_storeSet_of g dt ?_ (by rw [z2, sizeLine_eq]; omega)
  have sb : Heap.SameBut a s.heap (s.heap.update a (Obj.putSet (od.filterMap (es[·]?)) t2)) := Heap.SameBut.update ..
  exact q _ L2 _ (ep + 1) t2 sb ⟨⟨_, store_at g dt, ⟨ex.1, ex.2.1, ex.2.2⟩, rfl⟩, r1', T, (p2.map (·.2)).nodup_iff.mpr nd, fun e m => kt_away (tp e (p2.mem_iff.mp m)) g dt sb, by rw [tl]; exact ld, by rw [p2.length_eq, tm]; exact rM, by rw [p2.length_eq]; exact fw⟩ p2
/-- a tuple is put in -/
theorem k_add (R : KSet P w s.heap a L es ep t) {x : Addr} {k : List Key} (hx : KT P w s.heap k x) (hu : A.units < cLine) (fw : L.length + 1 < 64) {Q : Bool → Shared → Prop}
    (q : ∀ b h' L' es' ep' t', Heap.SameBut a s.heap h' → KSet P w h' a L' es' ep' t' → (k ∈ L.map (·.2) → L' = L) → (k ∉ L.map (·.2) → L'.Perm ((x, k) :: L)) → Q b { s with heap := h' }) :
    wpAny (model P w) A (setAddHashed a (.ref x) (kh P w k)) Q E s := by
  obtain ⟨o, g, ex, dt⟩ := R.ob
  have el := R.sz
  have rm := R.rm
  have ff := R.fts
  unfold setAddHashed
  refine wpAny_holding ?_
  rw [show (100000 : Nat) = 99999 + 1 from rfl, setAddHashedIn_succ]
  refine wpAny_bind (wpAny_setState_of g dt ff ?_)
  dsimp only
  refine wp_if_neg (by simp [byScan, Value.scannable]) ?_
  try refine wpAny_bind (wpAny_pure ?_)
  refine wpAny_bind (k_search R hx hu (fun m => ?_) fun K m eK oK => ?_)
  · dsimp only
    exact wpAny_pure (q false s.heap L es ep t (Heap.SameBut.refl a s.heap) R (fun _ => rfl) fun z => absurd m z)
  dsimp only
  refine wpAny_bind (wpAny_setState_of g dt ff ?_)
  dsimp only
  obtain ⟨u1, u2, u3, u4, u5, _, _, _, u9⟩ := R.tb.put eK oK
  generalize t.put (way t.mask (kh P w k) K) = pt at u1 u3 u4 u5 u9 ⊢
  obtain ⟨t1, i⟩ := pt
  dsimp only at u1 u3 u4 u5 u9 ⊢
  subst u1
  -- the flag that tells whether hashes go by value
  have key : ∀ t1' : SetTable, t1'.place = t1.place → t1'.dummies = t1.dummies → t1'.mask = t1.mask → t1'.led = t1.led → t1'.fill = t1.fill → t1'.tooFull = t1.tooFull →
      wpAny (model P w) A (do
        storeSet a (SetTable.insertAt es (SetTable.below t.place (way t.mask (kh P w k) K)) (kh P w k, Value.ref x)) t1'
        (if (!false && t1'.tooFull) = true then (do
            setRelay a (SetTable.grown (es.size + 1))
            pure true)
          else pure true)) Q E s := by
    intro t1' w1 w2 w3 w4 w5 w6
    have T1 : TabOk t1' ((L.map fun e => kh P w e.2).take (SetTable.below t.place (way t.mask (kh P w k) K)) ++ kh P w k :: (L.map fun e => kh P w e.2).drop (SetTable.below t.place (way t.mask (kh P w k) K))) := by
      obtain ⟨c1, c2, c3, c4, c5, c6⟩ := u3
      exact ⟨by rw [w1]; exact c1, by rw [w2]; exact c2, by rw [w1]; exact c3, by rw [w3]; exact c4, by rw [w1, w3]; exact c5, by rw [w1, w3]; exact c6⟩
    have ein : (SetTable.insertAt es (SetTable.below t.place (way t.mask (kh P w k) K)) (kh P w k, Value.ref x)).toList = kRows P w (L.take (SetTable.below t.place (way t.mask (kh P w k) K)) ++ (x, k) :: L.drop (SetTable.below t.place (way t.mask (kh P w k) K))) := by
      rw [SetTable.toList_insertAt, kRows_ins, R.rws]
    generalize SetTable.below t.place (way t.mask (kh P w k) K) = i at u2 T1 ein ⊢
    have pm := put_perm L i (x, k)
    have eh : (L.take i ++ (x, k) :: L.drop i).map (fun e => kh P w e.2) = (L.map fun e => kh P w e.2).take i ++ kh P w k :: (L.map fun e => kh P w e.2).drop i := by
      simp only [List.map_append, List.map_cons, List.map_take, List.map_drop]
    rw [← eh] at T1
    generalize SetTable.insertAt es i (kh P w k, Value.ref x) = es1 at ein ⊢
    generalize L.take i ++ (x, k) :: L.drop i = L1 at pm T1 ein
    have l1 : L1.length = L.length + 1 := pm.length_eq
    have ez : es1.size = L.length + 1 := by rw [← Array.length_toList, ein, kRows_len, l1]
    have nd1 : (L1.map (·.2)).Nodup := (pm.map (·.2)).nodup_iff.mpr (by rw [List.map_cons]; exact List.nodup_cons.mpr ⟨m, R.nd⟩)
    refine wpAny_bind (wpAny_storeSet_of g dt ?_ (by rw [ez, sizeLine_eq]; omega))
    have sb : Heap.SameBut a s.heap (s.heap.update a (Obj.putSet es1 t1')) := Heap.SameBut.update ..
    have g1 := store_at (es' := es1) (t' := t1') g dt
    generalize s.heap.update a (Obj.putSet es1 t1') = h1 at sb g1 ⊢
    have tp1 : ∀ e ∈ L1, KT P w h1 e.2 e.1 := fun e he => by
      rcases List.mem_cons.mp (pm.mem_iff.mp he) with rfl | he
      · exact kt_away hx g dt sb
      · exact kt_away (R.tp e he) g dt sb
    have ld1 : w.params.followText "set-order" = true ∨ t1'.led = true := by rw [w4, u5]; exact R.ld
    have full : t1'.tooFull = decide ((L.length + 1) * 5 ≥ t.mask * 3) := by
      unfold SetTable.tooFull
      rw [w5, w3, u4, u9, List.length_map]
    by_cases hf : t1'.tooFull = true
    · rw [hf]
      rw [full, decide_eq_true_eq] at hf
      simp only [Bool.not_false, Bool.and_self, if_true]
      rw [el]
      have tz : t1'.place.size = es1.size := by
        have h := T1.sz
        rw [List.length_map, l1] at h
        rw [h, ez]
      have m2 : (t.mask = 7 ∧ L.length = 4) ∨ (t.mask = 31 ∧ L.length = 18) := by
        rcases R.tb.mok with e | e | e
        · exact .inl ⟨e, by rw [e] at hf rm; omega⟩
        · exact .inr ⟨e, by rw [e] at hf rm; omega⟩
        · exfalso; rw [e] at hf; omega
      have go : ∀ M, SetTable.sizeAbove (SetTable.grown (L.length + 1)) - 1 = M → MaskOk M → SetTable.sizeAbove (SetTable.grown (L.length + 1)) ≤ 128 → (L.length + 1) * 5 < M * 3 →
          wpAny (model P w) A (setRelay a (SetTable.grown (L.length + 1))) (fun _ z => wpAny (model P w) A (pure true) Q E z) E { s with heap := h1 } := fun M b1 b2 b3 b4 =>
        k_relay (s := { s with heap := h1 }) g1 ⟨ex.1, ex.2.1, ex.2.2⟩ rfl ein tz T1.dm (by rw [ez, w3, u4]; rcases m2 with ⟨e, e2⟩ | ⟨e, e2⟩ <;> omega) nd1 tp1 ld1 (by rw [l1]; exact fw) b1 b2 b3 (by rw [l1]; exact b4) fun h2 L2 es2 ep2 t2 sb2 R2 pm2 =>
          wpAny_pure (q true h2 L2 es2 ep2 t2 (sb.trans sb2) R2 (fun z => absurd z m) fun _ => pm2.trans pm)
      refine wpAny_bind ?_
      rcases m2 with ⟨_, e2⟩ | ⟨_, e2⟩
      · exact go 31 (by rw [e2, size_20]) (.inr (.inl rfl)) (by rw [e2, size_20]; decide) (by omega)
      · exact go 127 (by rw [e2, size_76]) (.inr (.inr rfl)) (by rw [e2, size_76]; decide) (by omega)
    · have hf' : t1'.tooFull = false := by simpa using hf
      rw [full, decide_eq_true_eq] at hf
      rw [hf']
      simp only [Bool.not_false, Bool.and_false, Bool.false_eq_true, if_false]
      exact wpAny_pure (q true h1 L1 es1 (ep + 1) t1' sb ⟨⟨_, g1, ⟨ex.1, ex.2.1, ex.2.2⟩, rfl⟩, ein, T1, nd1, tp1, ld1, by rw [w3, u4, l1]; omega, by rw [l1]; exact fw⟩ (fun z => absurd z m) fun _ => pm)
  by_cases hp : t1.plain = true
  · refine wp_if_pos hp (wpAny_bind (kt_by hx fun c => ?_))
    cases c with
    | true =>
      simp only [if_true]
      exact key t1 rfl rfl rfl rfl rfl rfl
    | false =>
      simp only [Bool.false_eq_true, if_false]
      exact key { t1 with plain := false } rfl rfl rfl rfl rfl rfl
  · refine wp_if_neg hp (wpAny_bind (wpAny_pure ?_))
    simp only [if_true]
    exact key t1 rfl rfl rfl rfl rfl rfl
end
end My

namespace My
open PySem PySem.Spec PyProof.Rows L2
/-! ### set(xs), xs a list or tuple of such tuples -/
/-- what the set holds of the first i keys -/
structure Hold (ks : List (List Key)) (i : Nat) (L : List (Addr × List Key)) : Prop where
  mem : ∀ k, k ∈ L.map (·.2) ↔ k ∈ ks.take i
  len : L.length ≤ i
theorem Hold.zero (ks : List (List Key)) : Hold ks 0 [] := ⟨fun k => by simp, Nat.le_refl _⟩
theorem take_more {α : Type} {l : List α} {i : Nat} {x : α} (h : l[i]? = some x) : l.take (i + 1) = l.take i ++ [x] := by rw [List.take_succ, h]; rfl
theorem Hold.had {ks : List (List Key)} {i : Nat} {L : List (Addr × List Key)} {k : List Key} (g : Hold ks i L) (h : ks[i]? = some k) (m : k ∈ L.map (·.2)) : Hold ks (i + 1) L :=
  ⟨fun j => by rw [take_more h, List.mem_append, List.mem_singleton, g.mem]; exact ⟨.inl, fun z => z.elim id fun e => by rw [e]; exact (g.mem k).mp m⟩, Nat.le_succ_of_le g.len⟩
theorem Hold.got {ks : List (List Key)} {i : Nat} {L L' : List (Addr × List Key)} {x : Addr} {k : List Key} (g : Hold ks i L) (h : ks[i]? = some k) (pm : L'.Perm ((x, k) :: L)) : Hold ks (i + 1) L' :=
  ⟨fun j => by rw [take_more h, List.mem_append, List.mem_singleton, ← g.mem, (pm.map (·.2)).mem_iff, List.map_cons, List.mem_cons]; exact ⟨fun z => z.symm, fun z => z.symm⟩, by rw [pm.length_eq, List.length_cons]; exact Nat.succ_le_succ g.len⟩
section
variable {P : Program} {w : World} {A : Around} {R : Result → Shared → Prop} {I S : Addr} {fp wr : List Addr} {G : Array GenState → Array GenState → Prop} {n : Nat} {Pi : Nat → Value → Prop} {St : Nat → Shared → Prop}
theorem kt_keep {h h' : Heap} {k : List Key} {b : Addr} (x : KT P w h k b) (kp : ∀ c o, h.get? c = some o → h'.get? c = some o) : KT P w h' k b := by
  obtain ⟨o, its, m, g, r⟩ := x
  exact ⟨o, its, m, kp b o g, r⟩
/-- the tuples that are put in stand in the heap h0, which is kept -/
def KIn (P : Program) (w : World) (h0 h : Heap) (S : Addr) (ks : List (List Key)) (i : Nat) : Prop := (∀ c o, h0.get? c = some o → h.get? c = some o) ∧ ∃ L es ep t, KSet P w h S L es ep t ∧ Hold ks i L ∧ ∀ e ∈ L, KT P w h0 e.2 e.1
theorem k_turns (W : WalksS P w A.in1 I fp wr G n Pi St) (nS : S ∉ fp) (h0 : Heap) (kas : List (Addr × List Key)) (hn : kas.length = n) (h64 : n < 64) (hv : ∀ i v, Pi i v → ∃ e, kas[i]? = some e ∧ v = .ref e.1)
    (hk : ∀ e ∈ kas, KT P w h0 e.2 e.1) (hw : ∀ b ∈ S :: wr, h0.get? b = none) (hu : A.in1.units < cLine) :
    ∀ (m i : Nat) (z : Shared), i + m = n → St i z → KIn P w h0 z.heap S (kas.map (·.2)) i →
      (∀ z', Moved (S :: wr) G z z' → KIn P w h0 z'.heap S (kas.map (·.2)) n → R (.ok (.ret .none)) z') → codeAny (model P w) A (.builtin "set.update.loop" ⟨[.ref S, .ref I], []⟩) R z := by
  have nSw : S ∉ wr := fun h => nS (W.sub _ h)
  have more : ∀ b ∈ wr, b ∈ S :: wr := fun b hb => List.mem_cons_of_mem _ hb
  have kept : ∀ {z z' : Shared} {i : Nat}, Moved wr G z z' → KIn P w h0 z.heap S (kas.map (·.2)) i → KIn P w h0 z'.heap S (kas.map (·.2)) i := fun {z z' i} mv ⟨kp, L, es, ep, t, ks, hd, tp⟩ => by
    have kp' : ∀ c o, h0.get? c = some o → z'.heap.get? c = some o := fun c o e => mv.heap c o (fun hb => by rw [hw c (more c hb)] at e; cases e) (kp c o e)
    obtain ⟨o, g, r⟩ := ks.ob
    exact ⟨kp', L, es, ep, t, ⟨⟨o, mv.heap S o nSw g, r⟩, ks.rws, ks.tb, ks.nd, fun e m => kt_keep (tp e m) kp', ks.ld, ks.rm, ks.fw⟩, hd, tp⟩
  intro m
  induction m with
  | zero =>
    intro i z hi st hS k
    have ei : i = n := by omega
    subst ei
    refine codeAny_builtin PyProof.Rows.F.entry_set_update_loop ?_
    rw [Around.under_plainId PyProof.Rows.F.plain_set_update_loop _]
    show wpAny _ A.in1 (pyNext (Value.ref I) >>= _) _ _ z
    refine wpAny_bind (W.done z _ _ st fun z' mv => ?_)
    show wpAny _ A.in1 (ret Value.none) _ _ z'
    exact wpAny_pure (k z' (mv.mono more) (kept mv hS))
  | succ m ih =>
    intro i z hi st hS k
    refine codeAny_builtin PyProof.Rows.F.entry_set_update_loop ?_
    rw [Around.under_plainId PyProof.Rows.F.plain_set_update_loop _]
    show wpAny _ A.in1 (pyNext (Value.ref I) >>= _) _ _ z
    refine wpAny_bind (W.item i z _ _ (by omega) st fun v z' hP st' mv => ?_)
    obtain ⟨e, he, rfl⟩ := hv i v hP
    obtain ⟨kp, L, es, ep, t, ks, hd, tp⟩ := kept mv hS
    have xk : KT P w z'.heap e.2 e.1 := kt_keep (hk e (List.mem_of_getElem? he)) kp
    show wpAny _ A.in1 (holding [Value.ref e.1] (setAdd S (.ref e.1)) >>= _) _ _ z'
    refine wpAny_bind (wpAny_holding ?_)
    unfold setAdd
    refine wpAny_holding (wpAny_bind (wpAny_pyHash_tuple hu xk ?_))
    refine k_add (s := { z' with toks := z'.toks + (e.2.length + 1) }) ks xk hu (by have := hd.len; omega) fun b h' L' es' ep' t' sb ks' c1 c2 => ?_
    have kp2 : ∀ c o, h0.get? c = some o → h'.get? c = some o := fun c o q => (sb.2 c fun y => by rw [y, hw S List.mem_cons_self] at q; cases q).trans (kp c o q)
    have ek : (kas.map (·.2))[i]? = some e.2 := by rw [List.getElem?_map, he]; rfl
    have next : Hold (kas.map (·.2)) (i + 1) L' ∧ ∀ r ∈ L', KT P w h0 r.2 r.1 := by
      rcases Classical.em (e.2 ∈ L.map (·.2)) with c | c
      · rw [c1 c]; exact ⟨hd.had ek c, tp⟩
      · refine ⟨hd.got ek (c2 c), fun r hr => ?_⟩
        rcases List.mem_cons.mp ((c2 c).mem_iff.mp hr) with rfl | hr
        · exact hk e (List.mem_of_getElem? he)
        · exact tp r hr
    refine wpAny_pure ⟨plainId_quiet PyProof.Rows.F.plain_set_update_loop _, ih (i + 1) _ (by omega) (W.frame _ z' _ _ st' (Nat.le_add_right _ _) fun b hb o q => ?_) ⟨kp2, L', es', ep', t', ks', next.1, next.2⟩ fun z2 mv2 hS3 => ?_⟩
    · rw [sb.2 b fun y : b = S => nS (by rw [← y]; exact hb)]; exact q
    · refine k z2 (Moved.trans W.gtrans ((mv.mono more).then_heap (Nat.le_add_right _ _) fun b o hb q => ?_) mv2) hS3
      rw [sb.2 b fun y : b = S => hb (by rw [y]; exact List.mem_cons_self)]; exact q
end
end My

namespace My
open PySem PySem.Spec PyProof.Rows L2
section
variable {P : Program} {w : World} {A : Around} {E : Value → Shared → Prop} {z : Shared}
abbrev kset0 (w : World) : Obj := set0 (!w.params.followText "set-order")
theorem kset_new {h : Heap} {a : Addr} (g : h.get? a = some (kset0 w)) : KSet P w h a [] #[] 0 (.fresh 0 0 (!w.params.followText "set-order")) where
  ob := ⟨_, g, ⟨rfl, rfl, rfl⟩, rfl⟩
  rws := rfl
  tb := ⟨List.Pairwise.nil, rfl, rfl, .inl rfl, fun x m => (by cases m), fun i h j e => (by simp at e)⟩
  nd := List.nodup_nil
  tp := fun e m => by cases m
  ld := by
    show _ ∨ (!w.params.followText "set-order") = true
    cases w.params.followText "set-order"
    · exact .inr rfl
    · exact .inl rfl
  rm := by show 0 * 5 < 7 * 3; decide
  fw := by show 0 < 64; decide
set_option maxHeartbeats 4000000 in
theorem make_kset {a : Addr} {us : Array Value} (kas : List (Addr × List Key)) {Q : Value → Shared → Prop} (calm : A.handled = none) (hseq : z.heap.IsList a us ∨ z.heap.IsTuple a us) (hit : us.toList = kas.map fun e => Value.ref e.1)
    (hk : ∀ e ∈ kas, KT P w z.heap e.2 e.1) (h64 : kas.length < 64) (hu : A.units + 3 < cLine)
    (k : ∀ (h' : Heap) (tk : Nat), KIn P w z.heap h' z.heap.objs.size (kas.map (·.2)) kas.length → Q (.ref z.heap.objs.size) { z with heap := h', toks := tk }) :
    wpAny (model P w) A (call (.type "set") [.ref a]) Q E z := by
  obtain ⟨c, tl, hmro⟩ := PySem.F.called_set.mro
  have hmade := PySem.F.called_set.made
  have hsub := PySem.F.called_set.sub
  have usz : us.size = kas.length := by rw [← Array.length_toList, hit, List.length_map]
  have hval : ∀ (i : Nat) (v : Value), us[i]? = some v → ∃ e, kas[i]? = some e ∧ v = .ref e.1 := fun i v hv => by
    rw [← Array.getElem?_toList, hit, List.getElem?_map] at hv
    cases q : kas[i]? with
    | none => rw [q] at hv; cases hv
    | some e => rw [q] at hv; exact ⟨e, rfl, (Option.some.inj hv).symm⟩
  have gone : ∀ b, z.heap.objs.size ≤ b → z.heap.get? b = none := fun b lb => by
    cases q : z.heap.get? b with
    | none => rfl
    | some o => exact absurd (Heap.lt_size q) (Nat.not_lt.mpr lb)
  refine wpAny_call (codeAny_of_tree ?_)
  show wpAny _ _ (callAny (.type "set") _) _ _ _
  refine wpAny_pure ⟨Code.quiet_builtin _ (by decide +kernel), codeAny_builtin PySem.F.entry_type_call ?_⟩
  rw [Around.under_plain (weight_type_call_type "set" [.ref a] []) rfl]
  have t1 := PySem.F.called_set.notType
  have t2 := PySem.F.called_set.canCreate
  have t3 := PySem.F.typeCall_set_1 (.ref a)
  repeat (any_goals (first | assumption | wp_step))
  refine codeAny_mono (code_set_led1 (.ref a) (E := E) (Q₁ := fun ob z1 => ob = .ref z.heap.objs.size ∧ z1 = { z with heap := z.heap.push (kset0 w) }) ⟨rfl, rfl⟩) fun r z1 hr => ?_
  cases r with
  | error e => exact hr
  | ok fl =>
    cases fl with
    | next => exact hr.elim
    | brk => exact hr.elim
    | cont => exact hr.elim
    | ret ob =>
      obtain ⟨rfl, rfl⟩ := hr
      have hS : (z.heap.push (kset0 w)).get? z.heap.objs.size = some (kset0 w) := Heap.get?_push_size _ rfl
      have hT : Shared.TypeIs { z with heap := z.heap.push (kset0 w) } (.ref z.heap.objs.size) "set" := ⟨_, hS, rfl⟩
      have hli := PySem.F.called_set.init.lookup
      have hbi := PySem.F.called_set.init.bind (.ref z.heap.objs.size)
      repeat (any_goals (first | assumption | wp_step))
      refine codeAny_mono (codeAny_call_builtin (R := wants (fun r z2 => r = .none ∧ ∃ h' tk, z2 = { z with heap := h', toks := tk } ∧ KIn P w z.heap h' z.heap.objs.size (kas.map (·.2)) kas.length) E)
        PySem.F.called_set.init.plain PySem.F.entry_set_init (check_set_init_1 hT ?_)) fun r2 z2 hr2 => ?_
      · have fin : ∀ (ob0 : Obj) (z3 : Shared), Moved (z.heap.objs.size :: [(z.heap.push (kset0 w)).objs.size]) (fun a b => b = a) { z with heap := (z.heap.push (kset0 w)).push ob0 } z3 →
            KIn P w z.heap z3.heap z.heap.objs.size (kas.map (·.2)) us.size → wants (fun r z2 => r = .none ∧ ∃ h' tk, z2 = { z with heap := h', toks := tk } ∧ KIn P w z.heap h' z.heap.objs.size (kas.map (·.2)) kas.length) E (.ok (.ret .none)) z3 := by
          intro ob0 z3 mv hS3
          obtain ⟨h', g', d', tk', os'⟩ := z3
          have e1 : g' = z.gens := mv.gens
          have e2 : d' = z.drawn := mv.drawn
          have e3 : os' = z.os := mv.os
          subst e1; subst e2; subst e3
          exact ⟨rfl, h', tk', rfl, by rw [← usz]; exact hS3⟩
        have calm3 : A.in1.in1.in1.handled = none := by simp [calm]
        have u3 : A.in1.in1.in1.units < cLine := by show A.units + 1 + 1 + 1 < cLine; omega
        have start : ∀ ob0 : Obj, KIn P w z.heap ((z.heap.push (kset0 w)).push ob0) z.heap.objs.size (kas.map (·.2)) 0 := fun ob0 =>
          ⟨fun c o e => Heap.get?_push_of_some _ (Heap.get?_push_of_some _ e), [], #[], 0, _, kset_new (Heap.get?_push_of_some _ hS), Hold.zero _, fun e m => by cases m⟩
        have wr0 : ∀ b ∈ z.heap.objs.size :: [(z.heap.push (kset0 w)).objs.size], z.heap.get? b = none := fun b m => by
          rcases List.mem_cons.mp m with rfl | m
          · exact gone _ (Nat.le_refl _)
          · rw [List.mem_singleton.mp m, Heap.size_push]; exact gone _ (Nat.le_succ _)
        rcases hseq with hl | hl
        · obtain ⟨⟨oc, od, oda, osl⟩, hol, hcl, nl, hdl⟩ := hl
          simp only at hcl hdl
          subst hcl; subst hdl
          have hlt : a < z.heap.objs.size := Heap.lt_size hol
          have hol' := Heap.get?_push_of_some (kset0 w) hol
          have hsls := PySem.F.sub_list_set
          have hslf := PySem.F.sub_list_frozenset
          have hne : (Value.type "list" == Value.type "dict") = false := by decide
          have hl1 : (z.heap.push (kset0 w)).IsList a us := ⟨_, hol', rfl, nl, rfl⟩
          unfold Builtin.«set.__init__» noKeywords Builtin.Frozenset.updateFrom
          generalize hPI : pyIter = PI
          wp_walk
          subst hPI
          refine wpAny_pyIter_list hl1 (wpAny_bind (wpAny_runValue ?_))
          have n1 : a ≠ (z.heap.push (kset0 w)).objs.size := by rw [Heap.size_push]; exact Nat.ne_of_lt (Nat.lt_succ_of_lt hlt)
          have n2 : z.heap.objs.size ∉ [(z.heap.push (kset0 w)).objs.size, a] := by
            rw [Heap.size_push]; simp only [List.mem_cons, List.not_mem_nil, or_false, not_or]; exact ⟨Nat.ne_of_lt (Nat.lt_succ_self _), Nat.ne_of_gt hlt⟩
          refine k_turns ((Walks.list calm3 _ a n1 us).toS) n2 z.heap kas usz.symm (by omega) hval hk wr0 u3 us.size 0 _ (by omega) ⟨⟨_, Heap.get?_push_size _ rfl, rfl, rfl⟩, (hl1.push _)⟩ (start _) fun z3 mv hS3 => ?_
          obtain ⟨_, h', tk, rfl, q1⟩ := fin _ z3 mv hS3
          show wpAny _ _ _ _ _ _
          refine wpAny_pure ?_
          show wpAny _ _ (ret Value.none) _ _ _
          exact wpAny_pure ⟨rfl, h', tk, rfl, q1⟩
        · obtain ⟨⟨oc, od, oda, osl⟩, hol, hcl, nl, hdl⟩ := hl
          simp only at hcl hdl
          subst hcl; subst hdl
          have hlt : a < z.heap.objs.size := Heap.lt_size hol
          have hol' := Heap.get?_push_of_some (kset0 w) hol
          have hsls := PySem.F.sub_tuple_set
          have hslf := PySem.F.sub_tuple_frozenset
          have hne : (Value.type "tuple" == Value.type "dict") = false := by decide
          have hl1 : (z.heap.push (kset0 w)).IsTuple a us := ⟨_, hol', rfl, nl, rfl⟩
          unfold Builtin.«set.__init__» noKeywords Builtin.Frozenset.updateFrom
          generalize hPI : pyIter = PI
          wp_walk
          subst hPI
          refine wpAny_pyIter_tuple hl1 (wpAny_bind (wpAny_runValue ?_))
          have n1 : a ≠ (z.heap.push (kset0 w)).objs.size := by rw [Heap.size_push]; exact Nat.ne_of_lt (Nat.lt_succ_of_lt hlt)
          have n2 : z.heap.objs.size ∉ [(z.heap.push (kset0 w)).objs.size, a] := by
            rw [Heap.size_push]; simp only [List.mem_cons, List.not_mem_nil, or_false, not_or]; exact ⟨Nat.ne_of_lt (Nat.lt_succ_self _), Nat.ne_of_gt hlt⟩
          refine k_turns ((Walks.tuple calm3 _ a n1 us).toS) n2 z.heap kas usz.symm (by omega) hval hk wr0 u3 us.size 0 _ (by omega) ⟨⟨_, Heap.get?_push_size _ rfl, rfl, rfl⟩, (hl1.push _)⟩ (start _) fun z3 mv hS3 => ?_
          obtain ⟨_, h', tk, rfl, q1⟩ := fin _ z3 mv hS3
          show wpAny _ _ _ _ _ _
          refine wpAny_pure ?_
          show wpAny _ _ (ret Value.none) _ _ _
          exact wpAny_pure ⟨rfl, h', tk, rfl, q1⟩
      · cases r2 with
        | error e => exact hr2
        | ok fl2 =>
          cases fl2 with
          | next => exact hr2.elim
          | brk => exact hr2.elim
          | cont => exact hr2.elim
          | ret r =>
            obtain ⟨rfl, h', tk, rfl, hS'⟩ := hr2
            repeat (any_goals (first | assumption | wp_step))
            exact k _ _ hS'
end
end My

namespace My
open PySem PySem.Spec PyProof.Rows L2
theorem perm_sub {α : Type} [DecidableEq α] : ∀ {l ks : List α}, l.Nodup → (∀ k ∈ l, k ∈ ks) → ks.length ≤ l.length → l.Perm ks
  | [], ks, _, _, h => by rw [List.eq_nil_of_length_eq_zero (Nat.le_zero.mp h)]
  | x :: l, ks, nd, h, hl => by
    obtain ⟨n1, n2⟩ := List.nodup_cons.mp nd
    have hx := h x List.mem_cons_self
    have p1 := List.perm_cons_erase hx
    have l1 := p1.length_eq
    rw [List.length_cons] at l1 hl
    refine (List.Perm.cons x (perm_sub n2 (fun k hk => ?_) (by omega))).trans p1.symm
    rcases List.mem_cons.mp (p1.mem_iff.mp (h k (List.mem_cons_of_mem _ hk))) with rfl | q
    · exact absurd hk n1
    · exact q
theorem Hold.count {ks : List (List Key)} {L : List (Addr × List Key)} (h : Hold ks ks.length L) (nd : (L.map (·.2)).Nodup) : L.length = ks.length ↔ ks.Nodup := by
  have mem : ∀ k, k ∈ L.map (·.2) ↔ k ∈ ks := fun k => by rw [h.mem, List.take_length]
  constructor
  · intro e
    exact (perm_sub nd (fun k hk => (mem k).mp hk) (by rw [List.length_map]; omega)).nodup_iff.mp nd
  · intro n
    have pm := (List.perm_ext_iff_of_nodup nd n).mpr mem
    have := pm.length_eq
    rw [List.length_map] at this
    exact this
theorem items_keys {P : Program} {w : World} : ∀ {k : List Key} {us : List Value}, Vals (k.map kV) us → ItemsAre (mixKind P w) k us
  | [], _, .nil => .nil
  | .inl n :: k, _, .cons r t => by
    obtain ⟨tk, rfl⟩ := (show RelV (.int n) _ from r)
    exact .cons (mixKind_int P w n tk) (items_keys t)
  | .inr z :: k, _, .cons r t => by
    obtain ⟨tk, rfl⟩ := (show RelV (.str z) _ from r)
    exact .cons (mixKind_str P w z tk) (items_keys t)
theorem refs_keys : ∀ {kas : List (Addr × List Key)} {us : List Value}, Vals (kas.map fun e => V.ref e.1) us → us = kas.map fun e => Value.ref e.1
  | [], _, .nil => rfl
  | e :: kas, _, .cons r t => by
    cases r
    rw [refs_keys t]; rfl
section
variable {X : Cx} {pins : List (Addr × Obj)} {σ : L2.St} {H : Hp} {s : Shared}
theorem inv_kt {b : Addr} {k : List Key} (I : Inv X pins σ H s) (h : SqT X.K H b (k.map kV)) : KT X.prog X.w s.heap k b := by
  obtain ⟨its, r, ⟨o, g, hc, n, hd⟩, _⟩ := I.tuple h
  exact ⟨o, its.toArray, n, g, hc, hd, by simpa using items_keys r⟩
theorem kt_reads {P : Program} {w : World} {h : Heap} {b : Addr} {k : List Key} (x : KT P w h k b) : Reads h (.ref b) (.tuple (k.map kD)) [] := by
  obtain ⟨o, its, n, g, hc, hd, ia⟩ := x
  have all : ∀ {k : List Key} {us : List Value}, ItemsAre (mixKind P w) k us → ReadsAll h us (k.map kD) [] := fun {k us} q => by
    induction q with
    | nil => exact .nil
    | @cons c v ks vs h1 _ ih => exact .cons (key_reads (P := P) (w := w) c v h1) ih
  exact .tuple g hc hd (all ia)
end
/-- the argument: a list or tuple of tuples of ints and texts -/
def KSq (K : PySem.W.Frag) (H : Hp) (l : Addr) (kas : List (Addr × List Key)) : Prop := (SqL K H l (kas.map fun e => V.ref e.1) ∨ SqT K H l (kas.map fun e => V.ref e.1)) ∧ (∀ e ∈ kas, SqT K H e.1 (e.2.map kV)) ∧ kas.length < 64
section
variable {P : Program} {w : World} {A : Around} {E : Value → Shared → Prop} {s : Shared}
theorem each_refs {h : Heap} : ∀ {L : List (Addr × List Key)}, (∀ e ∈ L, KT P w h e.2 e.1) → PySem.W.EachIs (fun v (e : Addr × List Key) => ∃ as, Reads h v (.tuple (e.2.map kD)) as) (L.map fun e => Value.ref e.1) L
  | [], _ => .nil
  | e :: L, hk => .cons ⟨[], kt_reads (hk e List.mem_cons_self)⟩ (each_refs fun r m => hk r (List.mem_cons_of_mem _ m))
theorem rows_of {L : List (Addr × List Key)} : ∀ vs : List Value, (∀ v ∈ vs, ∃ e ∈ L, v = Value.ref e.1) → ∃ L1 : List (Addr × List Key), vs = L1.map (fun e => Value.ref e.1) ∧ ∀ e ∈ L1, e ∈ L
  | [], _ => ⟨[], rfl, fun e m => by cases m⟩
  | v :: vs, hv => by
    obtain ⟨e, m, rfl⟩ := hv v List.mem_cons_self
    obtain ⟨L1, e1, h1⟩ := rows_of vs fun u hu => hv u (List.mem_cons_of_mem _ hu)
    exact ⟨e :: L1, by rw [e1]; rfl, fun r hr => (List.mem_cons.mp hr).elim (fun q => q ▸ m) (h1 r)⟩
/-- sorted(set): a new list of as many -/
theorem sorted_kset {a : Addr} {L : List (Addr × List Key)} {es : Array (Int × Value)} {ep : Nat} {t : SetTable} {Q : Value → Shared → Prop} (R : KSet P w s.heap a L es ep t) (calm : A.handled = none) (hu : A.units + 64 < cLine)
    (hal : ∀ e ∈ L, ∀ e' ∈ L, PySem.W.alike (.tuple (e.2.map kD)) (.tuple (e'.2.map kD)) = true) (hne : ∀ e ∈ L, e.2 ≠ [])
    (q : ∀ s' p out c, (∀ b o, s.heap.get? b = some o → s'.heap.get? b = some o) → s'.gens = s.gens → s'.os = s.os → s'.heap.get? p = some (seqObj "list" (List.toArray out) c) → out.length = L.length → Q (.ref p) s') :
    wpAny (model P w) A (call (.builtin "sorted") [.ref a]) Q E s := by
  obtain ⟨o, g, ex, dt⟩ := R.ob
  have lz := R.sz
  have fw := R.fw
  refine Calls.call_function_entry kind_sorted plain_sorted entry_sorted (args_sorted1 _) ?_
  unfold Builtin.«sorted»
  refine wpAny_bind (m := checkCount "sorted" 1 1 _) (wpAny_pure ?_)
  refine wpAny_bind (collect_set (A := A.in1) calm ⟨o, g, ex.1, dt⟩ R.fts (by unfold scanBound; omega) R.tb.ris R.ld fun s1 vs k1 hz g1 o1 pm => ?_)
  have er : es.toList.map (·.2) = L.map fun e => Value.ref e.1 := by
    rw [R.rws]
    unfold kRows
    rw [List.map_map]; rfl
  rw [er] at pm
  obtain ⟨L1, e1, m1⟩ := rows_of (L := L) vs fun v hv => by
    obtain ⟨e, m, q⟩ := List.mem_map.mp (pm.mem_iff.mp hv)
    exact ⟨e, m, q.symm⟩
  have l1 : L1.length = L.length := by
    have := pm.length_eq
    rw [e1, List.length_map, List.length_map] at this
    exact this
  subst e1
  refine wpAny_bind (wpAny_newList ?_ (by rw [List.length_map, l1, sizeLine_eq]; omega))
  have gL : (s1.heap.push (seqObj "list" (L1.map fun e => Value.ref e.1).toArray 0)).get? s1.heap.objs.size = some (seqObj "list" (L1.map fun e => Value.ref e.1).toArray 0) := Heap.get?_push_size _ rfl
  have kp : ∀ b u, s.heap.get? b = some u → (s1.heap.push (seqObj "list" (L1.map fun e => Value.ref e.1).toArray 0)).get? b = some u := fun b u e => Heap.get?_push_of_some _ (k1 b u e)
  have er1 : PySem.W.EachIs (fun v (e : Addr × List Key) => ∃ as, Reads (s1.heap.push (seqObj "list" (L1.map fun e => Value.ref e.1).toArray 0)) v (.tuple (e.2.map kD)) as ∧ s1.heap.objs.size ∉ as) (L1.map fun e => Value.ref e.1) L1 := by
    have gen : ∀ {M : List (Addr × List Key)}, (∀ e ∈ M, KT P w (s1.heap.push (seqObj "list" (L1.map fun e => Value.ref e.1).toArray 0)) e.2 e.1) → PySem.W.EachIs (fun v (e : Addr × List Key) => ∃ as, Reads (s1.heap.push (seqObj "list" (L1.map fun e => Value.ref e.1).toArray 0)) v (.tuple (e.2.map kD)) as ∧ s1.heap.objs.size ∉ as) (M.map fun e => Value.ref e.1) M := fun {M} hM => by
      induction M with
      | nil => exact .nil
      | cons e M ih => exact .cons ⟨[], kt_reads (hM e List.mem_cons_self), List.not_mem_nil⟩ (ih fun r m => hM r (List.mem_cons_of_mem _ m))
    exact gen fun e m => kt_keep (R.tp e (m1 e m)) kp
  refine wpAny_bind (wpAny_holding (PySem.W.list_sort_data (s := { s1 with heap := s1.heap.push (seqObj "list" (L1.map fun e => Value.ref e.1).toArray 0) }) (R := fun v (_ : Addr × List Key) => True) (enc := fun e : Addr × List Key => .tuple (e.2.map kD)) (bs := L1) gL (er1.mono fun _ _ _ => trivial) er1 ?_ ?_ (by rw [l1, sizeLine_eq]; omega) ?_ fun out hl _ => ?_))
  · intro d hd d' hd'
    obtain ⟨e, m, rfl⟩ := List.mem_map.mp hd
    obtain ⟨e', m', rfl⟩ := List.mem_map.mp hd'
    exact hal e (m1 e m) e' (m1 e' m')
  · refine .inl fun d hd => ?_
    obtain ⟨e, m, rfl⟩ := List.mem_map.mp hd
    obtain ⟨b, k⟩ := e
    cases k with
    | nil => exact absurd rfl (hne _ (m1 _ m))
    | cons c k => exact ⟨kD c, k.map kD, rfl⟩
  · intro e m
    have d0 : ∀ k : List Key, PyData.depthAll (k.map kD) = 0 := fun k => by
      induction k with
      | nil => simp [PyData.depthAll]
      | cons c k ih => rw [List.map_cons, PyData.depthAll, ih]; cases c <;> simp [kD, PyData.depth]
    show A.in1.units + 1 + (PyData.tuple (e.2.map kD)).depth < cLine
    rw [PyData.depth, d0]
    show A.units + 1 + 1 + (0 + 1) < cLine
    omega
  · obtain ⟨c, hc⟩ := sortedHeap_at (vs := L1.map fun e => Value.ref e.1) (out := List.toArray out) gL
    refine wpAny_pure ⟨_, rfl, q _ s1.heap.objs.size out c (fun b u e => ?_) g1 o1 hc (by rw [hl, l1])⟩
    have e0 := k1 b u e
    have lt := Heap.lt_size e0
    show (sortedHeap (s1.heap.push (seqObj "list" (L1.map fun e => Value.ref e.1).toArray 0)) s1.heap.objs.size (L1.map fun e => Value.ref e.1) (List.toArray out)).get? b = some u
    rw [sortedHeap_old (Nat.ne_of_lt lt) (by rw [size_push']; exact Nat.lt_succ_of_lt lt)]
    exact Heap.get?_push_of_some _ e0
end
end My

namespace My
open PySem PySem.Spec PyProof.Rows L2
section
variable {X : Cx} {a : Expr} {σ : L2.St} {H : Hp} {Q : VK} {p p2 p3 q q2 pos : Pos}
theorem kset_run {pins : List (Addr × Obj)} {s1 : Shared} {H1 : Hp} {l : Addr} {kas : List (Addr × List Key)} (I1 : Inv X pins σ H1 s1) (hq : KSq X.K H1 l kas) (hc : X.calm = true) (hu : X.A.units + 64 < cLine) {R : Value → Shared → Prop}
    (k : ∀ (h' : Heap) (tk : Nat), KIn X.prog X.w s1.heap h' s1.heap.objs.size (kas.map (·.2)) kas.length → R (.ref s1.heap.objs.size) { s1 with heap := h', toks := tk }) :
    wpAny (model X.prog X.w) X.A (call (.type "set") [.ref l]) R X.xe s1 := by
  obtain ⟨hq, hk, hl⟩ := hq
  have hk' : ∀ e ∈ kas, KT X.prog X.w s1.heap e.2 e.1 := fun e m => inv_kt I1 (hk e m)
  rcases hq with hq | hq
  · obtain ⟨us, r, pl, hz⟩ := I1.list hq
    exact make_kset kas (I1.ok.hd hc) (.inl pl.isList) (by simpa using refs_keys r) hk' hl (by omega) k
  · obtain ⟨us, r, pl, hz⟩ := I1.tuple hq
    exact make_kset kas (I1.ok.hd hc) (.inr pl) (by simpa using refs_keys r) hk' hl (by omega) k
/-- len(set(xs)) -/
theorem e_lenKSet (hm : X.mg "len" = none) (hm2 : X.mg "set" = none) (hu : X.A.units + 64 < cLine) (h : WE X a σ H fun x H1 => ∃ l kas, x = .ref l ∧ KSq X.K H1 l kas ∧ ∀ m : Nat, (m = kas.length ↔ (kas.map (·.2)).Nodup) → Q (.int m) H1)
    (hc : X.calm = true := by rfl) (hg : Gl X "len" := by rfl) (hg2 : Gl X "set" := by rfl) (na : starEach [a] X.env = (false, eval a X.env) :: starEach [] X.env := by rfl) :
    WE X (.Call (.Name "len" p) [.Call (.Name "set" p2) [a] [] q] [] pos) σ H Q := by
  constructor
  intro pins s I
  refine Call_ (ld_blt I hg hm boot_len ?_)
  refine PyProof.Rows.callWith_builtin1 (PyProof.Rows.args_cons ?_ rfl) rfl rfl
  refine Call_ (ld_blt I hg2 hm2 boot_set ?_)
  refine PyProof.Rows.callWith_type1 (PyProof.Rows.args_cons (thn (h.go pins s I) fun v s1 ⟨x, H1, I1, r1, l, kas, e1, hq, q1⟩ => PyProof.Rows.args_nil ?_) na) na rfl
  subst e1
  cases r1
  refine kset_run I1 hq hc hu fun h' tk ⟨kp, L, es, ep, t, R, hd, _⟩ => ?_
  refine PyProof.Rows.args_nil ?_
  obtain ⟨o, g, ex, dt⟩ := R.ob
  have I2 : Inv X pins σ H1 { s1 with heap := h', toks := tk } := I1.kept kp
  have cnt := Hold.count (ks := kas.map (·.2)) (by rw [List.length_map]; exact hd) R.nd
  rw [List.length_map] at cnt
  have fw := R.fw
  have lz : es.size = L.length := KSet.sz (s := { s1 with heap := h', toks := tk }) R
  have ff : t.fits es.size = true := KSet.fts (s := { s1 with heap := h', toks := tk }) R
  refine call_len_set g ex dt ff (by rw [lz]; omega) ⟨.int L.length, H1, I2.tok _, ⟨_, by rw [lz]⟩, q1 _ cnt⟩
/-- len(sorted(set(xs))) -/
theorem e_lenSrtKSet (hm : X.mg "len" = none) (hm2 : X.mg "set" = none) (hm3 : X.mg "sorted" = none) (hu : X.A.units + 64 < cLine)
    (h : WE X a σ H fun x H1 => ∃ l kas, x = .ref l ∧ KSq X.K H1 l kas ∧ (∀ e ∈ kas, ∀ e' ∈ kas, PySem.W.alike (.tuple (e.2.map kD)) (.tuple (e'.2.map kD)) = true) ∧ (∀ e ∈ kas, e.2 ≠ []) ∧ ∀ m : Nat, (m = kas.length ↔ (kas.map (·.2)).Nodup) → Q (.int m) H1)
    (hc : X.calm = true := by rfl) (hg : Gl X "len" := by rfl) (hg2 : Gl X "set" := by rfl) (hg3 : Gl X "sorted" := by rfl) (na : starEach [a] X.env = (false, eval a X.env) :: starEach [] X.env := by rfl) :
    WE X (.Call (.Name "len" p) [.Call (.Name "sorted" p3) [.Call (.Name "set" p2) [a] [] q] [] q2] [] pos) σ H Q := by
  constructor
  intro pins s I
  refine Call_ (ld_blt I hg hm boot_len ?_)
  refine PyProof.Rows.callWith_builtin1 (PyProof.Rows.args_cons ?_ rfl) rfl rfl
  refine Call_ (ld_blt I hg3 hm3 PyProof.Rows.boot_sorted ?_)
  refine PyProof.Rows.callWith_builtin1 (PyProof.Rows.args_cons ?_ rfl) rfl rfl
  refine Call_ (ld_blt I hg2 hm2 boot_set ?_)
  refine PyProof.Rows.callWith_type1 (PyProof.Rows.args_cons (thn (h.go pins s I) fun v s1 ⟨x, H1, I1, r1, l, kas, e1, hq, hal, hne, q1⟩ => PyProof.Rows.args_nil ?_) na) na rfl
  subst e1
  cases r1
  refine kset_run I1 hq hc hu fun h' tk ⟨kp, L, es, ep, t, R, hd, _⟩ => ?_
  refine PyProof.Rows.args_nil ?_
  have cnt := Hold.count (ks := kas.map (·.2)) (by rw [List.length_map]; exact hd) R.nd
  have mem : ∀ e ∈ L, ∃ e' ∈ kas, e'.2 = e.2 := fun e m => by
    have h1 := (hd.mem e.2).mp (List.mem_map.mpr ⟨e, m, rfl⟩)
    obtain ⟨e', m', q'⟩ := List.mem_map.mp (List.mem_of_mem_take h1)
    exact ⟨e', m', q'⟩
  rw [List.length_map] at cnt
  have fw := R.fw
  refine sorted_kset (s := { s1 with heap := h', toks := tk }) R (I1.ok.hd hc) hu (fun e m e' m' => ?_) (fun e m => ?_) fun s2 r out c kp2 g2 o2 hr hl => ?_
  · obtain ⟨d, n, z⟩ := mem e m
    obtain ⟨d', n', z'⟩ := mem e' m'
    rw [← z, ← z']
    exact hal d n d' n'
  · obtain ⟨d, n, z⟩ := mem e m
    rw [← z]
    exact hne d n
  · refine PyProof.Rows.args_nil ?_
    have I2 : Inv X pins σ H1 { s1 with heap := s2.heap, gens := s2.gens, drawn := s2.drawn, toks := s2.toks } :=
      I1.call (ch := []) (Un.kept fun b o e => kp2 b o (kp b o e)) (I1.hok.kept fun b o e => kp2 b o (kp b o e)) (by rw [g2]; exact I1.bare) (fun _ z => nomatch z)
    have e2 : s2 = { s1 with heap := s2.heap, gens := s2.gens, drawn := s2.drawn, toks := s2.toks } := by
      have o3 : s2.os = s1.os := o2
      cases s2
      cases s1
      cases o3
      rfl
    rw [e2]
    refine Calls.call_len_list (items := List.toArray out) ⟨_, hr, rfl, c, rfl⟩ (by rw [List.size_toArray, hl]; omega) ⟨.int L.length, H1, I2.tok _, ⟨_, by rw [List.size_toArray, hl]⟩, q1 _ cnt⟩
end
end My

namespace My
open PySem PySem.Spec PyProof.Rows L2
/-! ### {k: v for x in tuple}, the keys tuples of ints and texts -/
theorem put_dT {X : Cx} {pins : List (Addr × Obj)} {σ : L2.St} {H : Hp} {s : Shared} {E : Value → Shared → Prop} {D b : Addr} {kvs : List (List Key × V)} {k : List Key} {v : V} {r : Value} {Q : Unit → Shared → Prop} (hu : X.A.units < cLine) (I : Inv X pins σ H s) (hD : H D = some (.dT kvs)) (hz : kvs.length < sizeLine)
    (eb : H b = some (.tup (k.map kV))) (rv : RelV v r) (h : ∀ s', Inv X pins σ (upd H D (.dT (putK kvs k v))) s' → Q () s') : wpAny (model X.prog X.w) X.A (dictSet D (.ref b) r) Q E s := by
  obtain ⟨z, hd, xs, rel, dd⟩ := dt_of I.hok hD
  have hz : xs.length ≤ sizeLine := by rw [← Paired.length rel]; exact z
  have hl : (putK kvs k v).length ≤ sizeLine := by have := length_putK kvs k v; omega
  refine wpAny_dictSet_heap (hsz := hz) (show (tupleKind (mixKind X.prog X.w)).room X.A from hu) (key_of I.hok eb) dd fun h' dd' hs => h _ ?_
  obtain ⟨q, es, ep, g1, g2, g3, g4, _, g5⟩ := dd'
  refine d_write I (by rw [hD]; exact True.intro) hs ⟨q, g1⟩ ⟨hl, hd, _, (rel.put k eb rv).keeps fun c ys ec => ?_, q, es, ep, g1, g2, g3, g4, g5⟩
  rw [upd_ne (ne_of ec hD (fun z => nomatch z))]
  exact ec
def tDt (wi : TI) (g : L2.TG) (tk tv : TE) (vs : List Nat) : TE := fun σ H Q => wi σ H fun J H1 => ∀ D, H1 D = none → ∃ W : Nat → Nat → Hp → Prop, (∃ m, W 0 m (upd H1 D (.dT []))) ∧ ∀ i m H, W i m H →
  (J.stop i H ∧ Q (.ref D) H) ∨ (J.go i H ∧ ∃ Nx : Hp → Prop, (∀ H', Nx H' → ∃ m', m' < m ∧ W (i + 1) m' H') ∧ ∀ x H', J.yld i H x H' → g x (wipe σ vs) H' fun σ2 H2 => wipe σ2 vs = wipe σ vs ∧
    tk σ2 H2 fun y H4 => tv σ2 H4 fun z H5 => ∃ kvs k b, y = .ref b ∧ H5 b = some (.tup (k.map kV)) ∧ H5 D = some (.dT kvs) ∧ kvs.length < sizeLine ∧ Nx (upd H5 D (.dT (putK kvs k z))))
section
variable {X : Cx}
theorem pe_dct {kx vx tg iter : Expr} {scope : Scope} {own : List (Str × Nat)} {pos : Pos} {wi : TI} {g : L2.TG} {tk tv : TE} (hc : X.calm = true) (hu : X.A.units + 64 < cLine) (hN : X.N.Nodup) (hi : PI X tg iter wi) (ok : BlkOk X.N X.env.scope scope own)
    (hg : ∀ (s : Shared) (H : Hp) (C : Addr) (cl : List (Str × Addr)) (fp : List Addr), PG (X.blk s H scope (compEnvC scope cl C X.env) fp) tg g)
    (hk : ∀ (s : Shared) (H : Hp) (C : Addr) (cl : List (Str × Addr)) (fp : List Addr), PE (X.blk s H scope (compEnvC scope cl C X.env) fp) kx tk)
    (he : ∀ (s : Shared) (H : Hp) (C : Addr) (cl : List (Str × Addr)) (fp : List Addr), PE (X.blk s H scope (compEnvC scope cl C X.env) fp) vx tv) (hs : ∀ x, foldedSetIterable iter X.env x = pure x := by intro _; rfl) :
    PE X (.DictComp kx vx [⟨tg, iter, [], 0⟩] scope pos) (tDt wi g tk tv (own.map (·.2))) := by
  refine ⟨fun pins s σ H Q I h => ?_⟩
  rw [arm_eval_DictComp]
  have hfree : ∀ y ∈ scope.names, y.2 = .free → ∃ c, X.env.cells.lookup y.1 = some c := fun y hy e =>
    (ok.free y hy e).elim (fun k => I.ok.has _ (.inl k)) fun k => I.ok.has _ (.inr k)
  refine wpAny_comprehension_free (use := none) rfl hs (closure_ok hfree) ok.kind (fun y hy e => by rw [ok.uniq y hy, e])
    (thn (hi.run pins s σ H _ I h) fun xv s1 hx => thn hx fun itv s2 ⟨it, fp, tn, J, H2, e, I2, T, st2, f2, q⟩ => ?_)
  subst e
  refine wpAny_newObj_type (newEnv_comp ?_)
  obtain ⟨D, hD⟩ : ∃ D, s2.heap.objs.size = D := ⟨_, rfl⟩
  have hDn : H2 D = none := I2.hok.fresh (Nat.le_of_eq hD)
  obtain ⟨W, ⟨m0, w0⟩, turn⟩ := q D hDn
  obtain ⟨s3, es3⟩ : ∃ s3 : Shared, s3 = { s2 with heap := s2.heap.push { cls := .type "dict", data := .dict #[] } } := ⟨_, rfl⟩
  have hp3 : s3.heap = s2.heap.push { cls := .type "dict", data := .dict #[] } := by rw [es3]
  have I3 : Inv X pins σ (upd H2 D (.dT [])) s3 := by
    rw [es3]
    exact I2.laid (t' := s2.toks) (fun b o e => Heap.get?_push_of_some _ e) (Nat.le_of_eq hD) (by rw [← hD]; exact dt_empty s2.heap I2.big)
  have sz : ∀ b ∈ fp, b < s2.heap.objs.size := fun b hb => by
    obtain ⟨o, e, _⟩ := T.obj _ _ st2 b hb
    exact Heap.lt_size e
  have f3 : ∀ b ∈ fp, FpOk X pins (upd H2 D (.dT [])) b ∧ b < s3.heap.objs.size := fun b hb => by
    have lt := sz b hb
    exact ⟨⟨by rw [upd_ne (by rw [← hD]; exact Nat.ne_of_lt lt)]; exact (f2 b hb).1, (f2 b hb).2⟩, by rw [hp3, Heap.size_push]; exact Nat.lt_succ_of_lt lt⟩
  have st3 : tn 0 s3.heap := T.keep _ _ _ st2 fun b _ o e => by rw [hp3]; exact Heap.get?_push_of_some _ e
  have I4 := block_start I3 ok hN f3
  have pg := hg s3 (upd H2 D (.dT [])) s3.heap.objs.size (cellsFrom (s3.heap.objs.size + 1) scope.names (cloFrom X.env.cells scope.names [])) fp
  have pk := hk s3 (upd H2 D (.dT [])) s3.heap.objs.size (cellsFrom (s3.heap.objs.size + 1) scope.names (cloFrom X.env.cells scope.names [])) fp
  have pe := he s3 (upd H2 D (.dT [])) s3.heap.objs.size (cellsFrom (s3.heap.objs.size + 1) scope.names (cloFrom X.env.cells scope.names [])) fp
  rw [hD, ← es3]
  have nfp : ∀ b ∈ fp, (upd H2 D (.dT [])) b = none := fun b hb => (f3 b hb).1.1
  show codeAny _ _ (.compStart (.DictComp kx vx [⟨tg, iter, [], 0⟩] scope pos) 0 (.ref it) (.ref D) (compEnvC scope (cellsFrom (s3.heap.objs.size + 1) scope.names (cloFrom X.env.cells scope.names [])) s3.heap.objs.size X.env)) (compPost (model X.prog X.w) X.A X.xe none (EP X pins σ Q) (.ref D) s3.heap.objs.size) _
  generalize hce : compEnvC scope (cellsFrom (s3.heap.objs.size + 1) scope.names (cloFrom X.env.cells scope.names [])) s3.heap.objs.size X.env = ce at I4 pg pk pe ⊢
  have cL : ce.locals = s3.heap.objs.size := by subst hce; rfl
  generalize hH3 : upd H2 D (.dT []) = H3 at I3 I4 pg pk pe w0 nfp f3
  have es4 : ∃ s4 : Shared, s4 = { s3 with heap := pushCells (s3.heap.push { cls := .type "dict", data := .dict #[] }) scope.names } := ⟨_, rfl⟩
  obtain ⟨s4, es4⟩ := es4
  rw [← es4] at I4 ⊢
  have st4 : tn 0 s4.heap := T.keep _ _ _ st3 fun b _ o e => by rw [es4]; exact pushCells_keeps _ _ _ _ (Heap.get?_push_of_some _ e)
  have stat : ∀ {σ' : L2.St} {H' : Hp} {s' : Shared}, Inv (X.blk s3 H3 scope ce fp) [] σ' H' s' → (∀ b ∈ fp, H' b = none) → ∀ b ∈ fp, FpOk (X.blk s3 H3 scope ce fp) [] H' b := fun {σ' H' s'} I' hn b hb =>
    ⟨hn b hb, (I'.ok.exf b hb).1, I'.ok.exfs b hb, .inl hb, fun x c e => (I'.ok.exf b hb).2 x c e, fun p hp => absurd (show p ∈ ([] : List (Addr × Obj)) ++ [] from hp) (by simp)⟩
  have loop : codeAny (model X.prog X.w) X.A (.compLoop (.DictComp kx vx [⟨tg, iter, [], 0⟩] scope pos) 0 (.ref it) (.ref D) ce) (compPost (model X.prog X.w) X.A X.xe none (EP X pins σ Q) (.ref D) s3.heap.objs.size) s4 := by
    refine compLoop_anyD (fun n s' => ∃ i H', Inv (X.blk s3 H3 scope ce fp) [] (wipe σ (own.map (·.2))) H' s' ∧ tn i s'.heap ∧ (∀ b ∈ fp, H' b = none) ∧ W i n H') ?_ m0 ⟨0, H3, I4, st4, nfp, w0⟩
    rintro n s5 ⟨i, H5, I5, st5, n5, w5⟩
    rcases turn i n H5 w5 with ⟨stop, qq⟩ | ⟨go, Nx, hNx, step⟩
    · refine thnF (T.done (X.blk s3 H3 scope ce fp) rfl rfl rfl hc i [] s5 _ H5 (fun _ _ => False) I5 (stat I5 n5) st5 stop) fun r s6 ⟨hr, I6⟩ => ?_
      subst hr
      have I7 : Inv X pins σ H5 s6 := I3.call' (ch := fp) I6.os I6.base I6.hok I6.bare fun b hb => ⟨(f3 b hb).1.2.2.2.1, (f3 b hb).1.2.1, (f3 b hb).1.2.2.2.2.1, (f3 b hb).1.2.2.2.2.2⟩
      have nC : H5 s3.heap.objs.size = none := by rw [← cL]; exact I6.free
      obtain ⟨m, hn, _⟩ := I6.loc
      have hn : s6.heap.Ns ce.locals m := hn
      rw [cL] at hn
      obtain ⟨f0, f1, _, f3', f4, f5⟩ := I3.fpOk (Nat.le_refl _) nC
      exact ⟨m, hn, fun h'' sb => ⟨.ref D, H5, I7.turned (t' := s6.toks) (fun b o hb e => (sb.2 b hb).trans e) f0 f1 f3' f4 f5, rfl, qq⟩⟩
    · refine thnF (T.item (X.blk s3 H3 scope ce fp) rfl rfl rfl hc i [] s5 _ H5 (fun _ _ => False) I5 (stat I5 n5) st5 go) fun r s6 ⟨u, hr, h6⟩ => ?_
      subst hr
      refine thnF h6 fun _ s7 ⟨x, H7, I7, r7, y7, st7, n7⟩ => ?_
      refine thnF (pg.run _ s7 _ H7 x u _ (I7.pinned (stat I7 n7) (T.obj _ _ st7)) r7 (step x H7 y7)) fun _ s8 ⟨σ8, H8, I8, hw8, q8⟩ => ?_
      have fin : ∀ {s' : Shared} {H' : Hp}, Inv (X.blk s3 H3 scope ce fp) ([] ++ pinsAt fp s7.heap) σ8 H' s' → Nx H' → ∃ m, m < n ∧ ∃ i H', Inv (X.blk s3 H3 scope ce fp) [] (wipe σ (own.map (·.2))) H' s' ∧ tn i s'.heap ∧ (∀ b ∈ fp, H' b = none) ∧ W i m H' := fun {s' H'} I' nx => by
        obtain ⟨m', hm, w'⟩ := hNx H' nx
        have pin' : ∀ b ∈ fp, ∀ o, s7.heap.get? b = some o → s'.heap.get? b = some o ∧ H' b = none := fun b hb o e =>
          let z := I'.pin (b, o) (List.mem_append_right _ (List.mem_append_right _ (mem_pinsAt hb e)))
          ⟨z.1, z.2.1⟩
        refine ⟨m', hm, i + 1, H', (I'.unpinned (pins := [])).weak (by rw [← hw8, wipe_length]) (fun j v e => ?_), T.keep _ _ _ st7 fun b hb o e => (pin' b hb o e).1, fun b hb => ?_, w'⟩
        · rw [← hw8] at e
          exact (wipe_some e).1
        · obtain ⟨o, e, _⟩ := T.obj _ _ st7 b hb
          exact (pin' b hb o e).2
      refine wpAny_pure ?_
      simp only [if_true]
      refine thnF (pk.run _ s8 σ8 H8 _ I8 q8) fun z s10 ⟨yk, H10, I10, r10, q10⟩ => ?_
      refine thnF (pe.run _ s10 σ8 H10 _ I10 q10) fun z2 s11 ⟨yv, H11, I11, r11, kvs, k, b, ek, eb, hD11, hz11, nx⟩ => ?_
      subst ek
      cases (show z = Value.ref b from r10)
      have hu' : (X.blk s3 H3 scope ce fp).A.units < cLine := by show X.A.units < cLine; omega
      exact put_dT (X := X.blk s3 H3 scope ce fp) hu' I11 hD11 hz11 eb r11 fun s12 I12 => fin I12 nx
  exact codeAny_compStart_dict loop (T.self X.A 0 _ _ _ st4 loop)
end
end My

namespace My
open PySem PySem.Spec PyProof.Rows L2
theorem upd_upd {H : Hp} {a : Addr} {o u : HO} : L2.upd (L2.upd H a o) a u = L2.upd H a u := by
  funext b
  by_cases e : b = a
  · subst e; rw [upd_same, upd_same]
  · rw [upd_ne e, upd_ne e, upd_ne e]
section
variable {X : Cx} {iter : Expr} {σ : L2.St} {H : Hp} {Q : VK} {scope : Scope} {x : Str} {p1 p2 pt pos : Pos} {j0 : Nat}
/-- {x: True for x in e} -/
theorem e_dcTrue (j : Nat) (hN : X.N.Nodup) (hu : X.A.units + 64 < cLine) (okb : BlkOk X.N X.env.scope scope [(x, j)])
    (h : WE X iter σ H fun v H1 => ∃ a xs, v = .ref a ∧ H1 a = some (.tup xs) ∧ (∀ y ∈ xs, ∃ (b : Addr) (k : List Key), y = .ref b ∧ H1 b = some (.tup (k.map kV))) ∧ xs.length ≤ 1000 ∧ ∀ D kvs, H1 D = none → Q (.ref D) (L2.upd H1 D (.dT kvs)))
    (hj : j < σ.length)
    (hg : ∀ (s : Shared) (H : Hp) (C : Addr) (cl : List (Str × Addr)) (fp : List Addr), PG (X.blk s H scope (compEnvC scope cl C X.env) fp) (.Name x pt) (gName j))
    (hk : ∀ (s : Shared) (H : Hp) (C : Addr) (cl : List (Str × Addr)) (fp : List Addr), PE (X.blk s H scope (compEnvC scope cl C X.env) fp) (.Name x p1) (fun σ H Q => ∃ v, σ[j]? = some (some v) ∧ Q v H))
    (hc : X.calm = true := by rfl) (hs : ∀ z, foldedSetIterable iter X.env z = pure z := by intro _; rfl) :
    WE X (.DictComp (.Name x p1) (.Constant (.bool true) j0 p2) [⟨.Name x pt, iter, [], 0⟩] scope pos) σ H Q := by
  refine toE (pe_dct (own := [(x, j)]) hc hu hN (pi_tup pE) okb hg hk (fun _ _ _ _ _ => pe_bl) hs) ?_
  show tDt _ _ _ _ _ σ H Q
  refine WE.mono h fun v H1 ⟨a, xs, e1, ha, hx, hl, q⟩ => ⟨a, e1, ⟨xs, .inl (.inl ha)⟩, ?_⟩
  intro D nD
  refine ⟨fun i m H' => m = xs.length - i ∧ i ≤ xs.length ∧ ∃ kvs : List (List Key × V), H' = L2.upd H1 D (.dT kvs) ∧ kvs.length ≤ i, ⟨xs.length, by omega, Nat.zero_le _, [], rfl, Nat.le_refl _⟩, ?_⟩
  rintro i m H' ⟨rfl, li, kvs, rfl, lk⟩
  have ha' : (L2.upd H1 D (.dT kvs)) a = some (.tup xs) := by rw [upd_ne (ne_of_none ha nD)]; exact ha
  have sq : SqT X.K (L2.upd H1 D (.dT kvs)) a xs := .inl (.inl ha')
  by_cases lt : i < xs.length
  · refine .inr ⟨⟨xs, xs[i], sq, by simp [lt]⟩, fun H' => ∃ kvs : List (List Key × V), H' = L2.upd H1 D (.dT kvs) ∧ kvs.length ≤ i + 1, fun H' p' => ⟨xs.length - (i + 1), by omega, rfl, lt, p'⟩, fun y H' hy => ?_⟩
    obtain ⟨rfl, hy⟩ := hy
    have ey := hy xs sq
    rw [List.getElem?_eq_getElem lt] at ey
    obtain ⟨b, k, e2, eb⟩ := hx xs[i] (List.getElem_mem lt)
    have e3 : y = .ref b := by rw [← e2]; exact (Option.some.inj ey).symm
    subst e3
    have nbD : b ≠ D := ne_of_none eb nD
    show gName j _ (wipe σ [j]) _ _
    refine ⟨?_, .ref b, ?_, kvs, k, b, rfl, by rw [upd_ne nbD]; exact eb, upd_same, Nat.lt_of_le_of_lt lk (Nat.lt_of_lt_of_le (show i < 1001 by omega) (by decide)), _, upd_upd, Nat.le_trans (length_putK _ _ _) (by omega)⟩
    · show wipe ((wipe σ [j]).set j _) [j] = wipe σ [j]
      show (((σ.set j none).set j _).set j none) = σ.set j none
      rw [List.set_set, List.set_set]
    · show ((σ.set j none).set j (some (.ref b)))[j]? = _
      rw [List.getElem?_set_self (by rw [List.length_set]; exact hj)]
  · have e : i = xs.length := by omega
    subst e
    exact .inl ⟨⟨xs, sq, Nat.le_refl _⟩, q D kvs nD⟩
end
/-! ### isinstance of two types, sorted of data -/
def isLst : PyData → Bool | .list _ => true | _ => false
theorem kit_lst : ∀ d : PyData, kitB (tyD d) "list" = some (isLst d)
  | .none => by show kitB "NoneType" "list" = some false; decide +kernel
  | .bool _ => by show kitB "bool" "list" = some false; decide +kernel
  | .int _ => by show kitB "int" "list" = some false; decide +kernel
  | .str _ => by show kitB "str" "list" = some false; decide +kernel
  | .list _ => by show kitB "list" "list" = some true; decide +kernel
  | .tuple _ => by show kitB "tuple" "list" = some false; decide +kernel
  | .dict _ => by show kitB "dict" "list" = some false; decide +kernel
section
variable {X : Cx} {ρ : Rho} {e : Expr} {d : PyData} {ds : List PyData} {pos p p1 p2 pt : Pos} {k : Nat}
theorem kit_tl {K : PySem.W.Frag} (d : PyData) : PySem.W.kitAny K (.type (tyD d)) [.type "tuple", .type "list"] = some (isTup d || isLst d) :=
  kitAny_cons (kit_ty (kit_tup d)) (fun e => by rw [e, Bool.false_or]; exact kitAny_cons (kit_ty (kit_lst d)) (fun e => by rw [e]; exact kitAny_nil) fun e => e) fun e => by rw [e]; rfl
theorem kit_lt {K : PySem.W.Frag} (d : PyData) : PySem.W.kitAny K (.type (tyD d)) [.type "list", .type "tuple"] = some (isTup d || isLst d) :=
  kitAny_cons (kit_ty (kit_lst d)) (fun e => by rw [e, Bool.or_false]; exact kitAny_cons (kit_ty (kit_tup d)) (fun e => by rw [e]; exact kitAny_nil) fun e => e) fun e => by rw [e, Bool.or_true]
theorem d_isi2 {T1 T2 : Str} {t1 t2 : String} {bb : Bool} (hi : X.mg "isinstance" = none) (h1 : X.mg T1 = none) (h2 : X.mg T2 = none) (b1 : bootBuiltins T1 = some (.type t1)) (b2 : bootBuiltins T2 = some (.type t2)) (h : ED X ρ e d)
    (hk : PySem.W.kitAny X.K (.type (tyD d)) [.type t1, .type t2] = some bb) (hg : Gl X "isinstance" := by rfl) (g1 : Gl X T1 := by rfl) (g2 : Gl X T2 := by rfl) (n1 : T1 ≠ "__name__" := by decide) (n2 : T2 ≠ "__name__" := by decide) (d1 : (T1 == ("__debug__" : Str)) = false := by decide) (d2 : (T2 == ("__debug__" : Str)) = false := by decide)
    (s1 : starEach [e, .Tuple [.Name T1 p1, .Name T2 p2] k pt] X.env = (false, eval e X.env) :: starEach [.Tuple [.Name T1 p1, .Name T2 p2] k pt] X.env := by rfl) (s2 : starEach [.Tuple [.Name T1 p1, .Name T2 p2] k pt] X.env = (false, eval (.Tuple [.Name T1 p1, .Name T2 p2] k pt) X.env) :: starEach [] X.env := by rfl)
    (s3 : starEach [.Name T1 p1, .Name T2 p2] X.env = (false, eval (.Name T1 p1) X.env) :: starEach [.Name T2 p2] X.env := by rfl) (s4 : starEach [.Name T2 p2] X.env = (false, eval (.Name T2 p2) X.env) :: starEach [] X.env := by rfl)
    (hpl : (backTo pos (starEach [.Tuple [.Name T1 p1, .Name T2 p2] k pt] X.env)).any (·.1) = false := by rfl) :
    ED X ρ (.Call (.Name "isinstance" p) [e, .Tuple [.Name T1 p1, .Name T2 p2] k pt] [] pos) (.bool bb) := fun S σ H Q sl q =>
  e_callB call_isiT hi PyProof.Rows.boot_isinstance (a_cons (h S σ H _ sl fun v H1 s1' g1' => a_cons (e_tup (a_cons (e_bltn (v := .ty t1) h1 b1 rfl (a_cons (e_bltn (v := .ty t2) h2 b2 rfl (a_nil ⟨by show 2 ≤ sizeLine; decide, fun r hr => a_nil
    ⟨v, r, [.ty t1, .ty t2], .type (tyD d), [.type t1, .type t2], bb, rfl, upd_same, .cons (.ty t1) (.cons (.ty t2) .nil), (g1'.same (same_new hr)).ty, hk, q _ _ (s1'.trans (same_new hr)) (.bl _)⟩⟩) g2 n2 d2) s4) g1 n1 d1) s3)) s2) s1) hg (by decide) (by decide) s1 hpl
end
end My

namespace My
open PySem PySem.Spec PyProof.Rows L2
section
variable {P : Program} {w : World} {A : Around} {E : Value → Shared → Prop} {z : Shared} {a : Addr} {us : List Value} {κ : PyProof.Rows.KeyKind}
/-- sorted(t), t a tuple -/
theorem sorted_tupV {Q : Value → Shared → Prop} (ht : z.heap.IsTuple a us.toArray) (S : PySem.W.SortsAt P w A.in1.in1 { z with heap := PySem.W.sortingHeap (PySem.W.copyHeap z.heap us) (z.heap.objs.size + 1) us } κ us) (hl : us.length ≤ sizeLine)
    (k : Q (.ref (z.heap.objs.size + 1)) { z with heap := sortedAll z.heap us (PySem.W.sortVals κ false us us).toArray }) : wpAny (model P w) A (call (.builtin "sorted") [.ref a]) Q E z := by
  refine Calls.call_function_entry kind_sorted plain_sorted entry_sorted (args_sorted1 _) ?_
  unfold Builtin.«sorted»
  refine wpAny_bind (m := checkCount "sorted" 1 1 _) (wpAny_pure ?_)
  refine wpAny_bind (gather_tup ht hl (wpAny_bind (wpAny_newList ?_ hl)))
  have hsz : ((z.heap.push (seqObj "list" #[] 0)).update z.heap.objs.size (Obj.mapSeq (· ++ us.toArray))).objs.size = z.heap.objs.size + 1 := by rw [Heap.size_update, size_push']
  show wpAny _ _ _ _ _ { z with heap := PySem.W.copyHeap z.heap us }
  rw [hsz]
  refine wpAny_bind (wpAny_holding (wpAny_call_entry slot_list_sort ⟨_, PySem.W.copyHeap_at z.heap us, rfl⟩ entry_list_sort (PySem.W.list_sort_vals (s := { z with heap := PySem.W.copyHeap z.heap us }) (PySem.W.copyHeap_at z.heap us) S hl ⟨_, rfl, ?_⟩) (args_list_sort _)))
  exact wpAny_pure ⟨_, rfl, k⟩
theorem sorted_tupD {β : Type} {bs : List β} {enc : β → PyData} {R : Value → β → Prop} {Q : Value → Shared → Prop} (ht : z.heap.IsTuple a us.toArray) (e : PySem.W.EachIs R us bs) (er : PySem.W.EachIs (fun v b => ∃ as, Reads z.heap v (enc b) as) us bs)
    (hal : PySem.W.AllAlike (bs.map enc)) (hk : PySem.W.Sortable (bs.map enc)) (hL : bs.length ≤ sizeLine) (hu : ∀ b, b ∈ bs → A.units + 2 + (enc b).depth < cLine)
    (k : ∀ out, out.length = bs.length → PySem.W.EachIs R out (bs.mergeSort (PySem.W.dataLe false enc)) → Q (.ref (z.heap.objs.size + 1)) { z with heap := sortedAll z.heap us (List.toArray out) }) : wpAny (model P w) A (call (.builtin "sorted") [.ref a]) Q E z := by
  have er' : PySem.W.EachIs (fun v b => ∃ as, Reads (PySem.W.sortingHeap (PySem.W.copyHeap z.heap us) (z.heap.objs.size + 1) us) v (enc b) as) us bs := er.mono fun _ _ ⟨as, r⟩ => ⟨as, PyProof.Rows.Reads.keeps (fun _ _ => PySem.W.sorting_copy_old) r⟩
  exact sorted_tupV ht (PySem.W.SortsAt.data (s := { z with heap := PySem.W.sortingHeap (PySem.W.copyHeap z.heap us) (z.heap.objs.size + 1) us }) (PySem.W.each_map (R := fun v d => ∃ as, Reads (PySem.W.sortingHeap (PySem.W.copyHeap z.heap us) (z.heap.objs.size + 1) us) v d as) enc er') hal hk (PySem.W.bound_map hu)) (by rw [e.length]; exact hL)
    (k _ (by rw [PySem.W.sortVals_length false rfl]; exact e.length) (PySem.W.sortVals_data false e er' hal))
end
section
variable {X : Cx} {pins : List (Addr × Obj)} {σ : L2.St} {H : Hp} {s : Shared}
theorem dgs_each (I : Inv X pins σ H s) {S : Addr → Prop} : ∀ {xs : List V} {ds : List PyData} {us : List Value}, DGs S H xs ds → Vals xs us → (∀ d ∈ ds, d.hasDict = false) →
    PySem.W.EachIs (fun u d => ∃ x, RelV x u ∧ DG S H x d) us ds ∧ PySem.W.EachIs (fun u d => ∃ as, Reads s.heap u d as) us ds
  | _, _, _, .nil, .nil, _ => ⟨.nil, .nil⟩
  | _, _, _, .cons g gs, .cons r rs, h => by
    obtain ⟨h1, h2⟩ := dgs_each I gs rs fun d m => h d (List.mem_cons_of_mem _ m)
    obtain ⟨as, q, _⟩ := g.reads I (.inl (h _ List.mem_cons_self)) r
    exact ⟨.cons ⟨_, r, g⟩ h1, .cons ⟨as, q⟩ h2⟩
theorem each_dgs {S : Addr → Prop} : ∀ {us : List Value} {ds : List PyData}, PySem.W.EachIs (fun u d => ∃ x, RelV x u ∧ DG S H x d) us ds → ∃ xs, Vals xs us ∧ DGs S H xs ds
  | _, _, .nil => ⟨[], .nil, .nil⟩
  | _, _, .cons ⟨x, r, g⟩ t => by
    obtain ⟨xs, h1, h2⟩ := each_dgs t
    exact ⟨x :: xs, .cons r h1, .cons g h2⟩
/-- the sorted data -/
def srtD (ds : List PyData) : List PyData := ds.mergeSort (PySem.W.dataLe false id)
theorem call_sortedD (hu : X.A.units + 64 < cLine) : CallR X (.builtin "sorted") (fun vs H Q => ∃ (S : Addr → Prop) (a : Addr) (xs : List V) (ds : List PyData), vs = [V.ref a] ∧ (SqL X.K H a xs ∨ SqT X.K H a xs) ∧ DGs S H xs ds ∧ PySem.W.AllAlike ds ∧ PySem.W.Sortable ds ∧ ds.length ≤ 1000 ∧
    (∀ d ∈ ds, d.hasDict = false ∧ d.depth ≤ 40) ∧ ∀ (ys : List V) (p : Addr), DGs S H ys (srtD ds) → H p = none → Q (.ref p) (L2.upd H p (.lst ys))) := by
  intro pins s σ H vs us Q I r ⟨S, a, xs, ds, e0, hq, g, hal, hk, hl, hd, q⟩
  subst e0
  obtain ⟨u, rfl, ru⟩ := vals1 r
  cases ru
  have big : ∀ out : List Value, out.length = ds.length → out.length ≤ sizeLine := fun out e => by rw [e]; exact Nat.le_trans hl (by decide)
  have fin : ∀ (its out : List Value), out.length = ds.length → PySem.W.EachIs (fun u d => ∃ x, RelV x u ∧ DG S H x d) out (ds.mergeSort (PySem.W.dataLe false id)) →
      EP X pins σ Q (.ref (s.heap.objs.size + 1)) { s with heap := sortedAll s.heap its (List.toArray out) } := fun its out e ea => by
    obtain ⟨ys, v1, g1⟩ := each_dgs ea
    obtain ⟨ep, he⟩ := sortedAll_at s.heap its (List.toArray out)
    refine ⟨.ref _, L2.upd H (s.heap.objs.size + 1) (.lst ys), I.laid (t' := s.toks) (fun _ _ => sortedAll_old) (Nat.le_succ _) ⟨by rw [v1.length]; exact big out e, out, ep, v1, he⟩, rfl, q ys _ g1 (I.hok.fresh (Nat.le_succ _))⟩
  have du : ∀ b, b ∈ ds → X.A.units + 2 + (id b : PyData).depth < cLine := fun b m => by
    have := (hd b m).2
    show X.A.units + 2 + b.depth < cLine
    omega
  rcases hq with hq | hq
  · obtain ⟨its, rv, pl, hz⟩ := I.list hq
    obtain ⟨e1, e2⟩ := dgs_each I g rv fun d m => (hd d m).1
    exact PySem.W.sorted_data (enc := id) pl.isList e1 e2 (by rw [List.map_id]; exact hal) (by rw [List.map_id]; exact hk) (Nat.le_trans hl (by decide)) du fun out l ea => fin its out l ea
  · obtain ⟨its, rv, pl, hz⟩ := I.tuple hq
    obtain ⟨e1, e2⟩ := dgs_each I g rv fun d m => (hd d m).1
    exact sorted_tupD (enc := id) pl e1 e2 (by rw [List.map_id]; exact hal) (by rw [List.map_id]; exact hk) (Nat.le_trans hl (by decide)) du fun out l ea => fin its out l ea
end
section
variable {X : Cx} {ρ : Rho} {e : Expr} {d : PyData} {ds : List PyData} {pos p p1 p2 pt : Pos} {k : Nat}
def seqD : PyData → List PyData | .tuple ds => ds | .list ds => ds | _ => []
theorem DG.seqs {S : Addr → Prop} {H : Hp} {v : V} {d : PyData} (g : DG S H v d) (h : (isTup d || isLst d) = true) : ∃ a xs, v = .ref a ∧ DGs S H xs (seqD d) ∧ ((isTup d = true ∧ H a = some (.tup xs)) ∨ (isTup d = false ∧ H a = some (.lst xs))) := by
  cases g with
  | tup h1 h2 => exact ⟨_, _, rfl, h2, .inl ⟨rfl, h1⟩⟩
  | lst h1 _ h2 => exact ⟨_, _, rfl, h2, .inr ⟨rfl, h1⟩⟩
  | _ => cases h
theorem d_sortD (hm : X.mg "sorted" = none) (hu : X.A.units + 64 < cLine) (h : ED X ρ e d) (hd : (isTup d || isLst d) = true) (hal : PySem.W.AllAlike (seqD d)) (hk : PySem.W.Sortable (seqD d)) (hl : (seqD d).length ≤ 1000) (hp : ∀ x ∈ seqD d, x.hasDict = false ∧ x.depth ≤ 40) (hg : Gl X "sorted" := by rfl)
    (he : starEach [e] X.env = (false, eval e X.env) :: starEach [] X.env := by rfl) : ED X ρ (.Call (.Name "sorted" p) [e] [] pos) (.list (srtD (seqD d))) := fun S σ H Q sl q =>
  e_callB (call_sortedD hu) hm PyProof.Rows.boot_sorted (a_cons (h S σ H _ sl fun v H1 s1 g1 => by
    obtain ⟨a, xs, rfl, gs, hq⟩ := g1.seqs hd
    refine a_nil ⟨S, a, xs, _, rfl, ?_, gs, hal, hk, hl, hp, fun ys r g2 hr => ?_⟩
    · rcases hq with ⟨_, hq⟩ | ⟨_, hq⟩
      · exact .inr (.inl (.inl hq))
      · exact .inl (.inl (.inl hq))
    · exact q _ _ (s1.trans (same_new hr)) (.lst upd_same (fun z => in_same s1 sl.dom r z hr) (g2.same (same_new hr)))) he) hg (by decide) (by decide) he rfl
/-- tuple(e), list(e) -/
theorem d_tupleD (hm : X.mg "tuple" = none) (h : ED X ρ e d) (hd : (isTup d || isLst d) = true) (hg : Gl X "tuple" := by rfl) (he : starEach [e] X.env = (false, eval e X.env) :: starEach [] X.env := by rfl) : ED X ρ (.Call (.Name "tuple" p) [e] [] pos) (.tuple (seqD d)) := fun S σ H Q sl q =>
  e_callT call_tuple_of hm PyProof.Rows.boot_tuple (a_cons (h S σ H _ sl fun v H1 s1 g1 => by
    obtain ⟨a, xs, rfl, gs, ⟨_, hq⟩ | ⟨_, hq⟩⟩ := g1.seqs hd
    · exact a_nil ⟨a, xs, rfl, .inr ⟨.inl (.inl hq), q _ _ s1 (.tup hq gs)⟩⟩
    · exact a_nil ⟨a, xs, rfl, .inl ⟨.inl (.inl hq), fun r hr => q _ _ (s1.trans (same_new hr)) (.tup upd_same (gs.same (same_new hr)))⟩⟩) he) hg (by decide) (by decide) he rfl
theorem d_listD (hm : X.mg "list" = none) (h : ED X ρ e d) (hd : (isTup d || isLst d) = true) (hg : Gl X "list" := by rfl) (he : starEach [e] X.env = (false, eval e X.env) :: starEach [] X.env := by rfl) : ED X ρ (.Call (.Name "list" p) [e] [] pos) (.list (seqD d)) := fun S σ H Q sl q =>
  e_callT call_list_of hm PyProof.Rows.boot_list (a_cons (h S σ H _ sl fun v H1 s1 g1 => by
    obtain ⟨a, xs, rfl, gs, hq⟩ := g1.seqs hd
    refine a_nil ⟨a, xs, rfl, ?_, fun r hr => q _ _ (s1.trans (same_new hr)) (.lst upd_same (fun z => in_same s1 sl.dom r z hr) (gs.same (same_new hr)))⟩
    rcases hq with ⟨_, hq⟩ | ⟨_, hq⟩
    · exact .inr (.inl (.inl hq))
    · exact .inl (.inl (.inl hq))) he) hg (by decide) (by decide) he rfl
end
end My

namespace My
open PySem PySem.Spec PyProof.Rows L2
/-! ### == and != by an own __eq__ -/
section
variable {prog : Program} {w : World} {A : Around} {E : Value → Shared → Prop} {s : Shared} {K : PySem.W.Frag} {x C L f : Addr} {h₀ : Heap} {m : Str → Option Value} {ox : Obj} {od : Option Obj} {b tb : Value}
/-- the entry for object.__ne__ at an instance -/
theorem ne_check {Q : Unit → Shared → Prop} (X : K.In s.heap) (I : PySem.W.InstAt s.heap x ox C od) (hm : PySem.W.mroIn K C (.type "object") = some true) (q : Q () s) : wpAny (model prog w) A (checkBuiltinCall "object.__ne__" ⟨[.ref x, b], []⟩) Q E s := by
  have ha := PySem.F.cmpArgs_ne (.ref x) b
  simp only [checkBuiltinCall, PySem.F.cmpKind_ne, PySem.F.cmpSplit_ne]
  refine wpAny_bind ?_
  unfold isInstance
  refine wpAny_bind (I.type.here ((PySem.W.looks_mroIn X hm).here ?_))
  cases hsig : Manifest.signature? "object.__ne__" with
  | none => exact wpAny_pure q
  | some sig =>
    simp only [argsOk, hsig] at ha
    have h2 : Bind.checkArgs "object.__ne__" sig ⟨[.ref x, b], []⟩ = pure () := ha
    simp only [Bool.not_true, Bool.false_eq_true, if_false]
    show wpAny _ A (Bind.checkArgs "object.__ne__" sig ⟨[.ref x, b], []⟩) Q E _
    rw [h2]; exact wpAny_pure q
theorem ne_bound {M : Model} {Q : Option Value → Shared → Prop} (X : K.In s.heap) (I : PySem.W.InstAt s.heap x ox C od) (hs : PySem.W.findIn K (.ref C) "__ne__" = some (some (.builtin "object.__ne__")))
    (h : wpAny M A (call (.builtin "object.__ne__") [.ref x, b]) (fun v => Q (some v)) E s) : wpAny M A (callSpecialIfBound? (.ref x) "__ne__" [b]) Q E s := by
  simp only [callSpecialIfBound?, bindSpecialIfBound?]
  refine wpAny_holding (wpAny_bind (wpAny_bind (wpAny_bind (I.type.here ((PySem.W.looks_findIn X hs).here ?_)))))
  simp only [PySem.F.cmp_object.ne.bind]
  refine wpAny_bind (wpAny_askSetting (wpAny_ite ?_))
  have fin : wpAny M A (call (.builtin "object.__ne__") ([.ref x] ++ [b]) >>= fun v => pure (some v)) Q E s := wpAny_bind (wpAny_mono h (fun v s' h' => wpAny_pure h') fun _ _ h' => h')
  split
  · exact wpAny_bind (wpAny_pure (wpAny_pure fin))
  · exact wpAny_tryCatch (wpAny_bind (wpAny_pure (wpAny_pure fin)))
theorem ne_call {Q : Value → Shared → Prop} (hu : A.units + 2 < cLine) (X : K.In s.heap) (I : PySem.W.InstAt s.heap x ox C od) (hm : PySem.W.mroIn K C (.type "object") = some true) (hs : PySem.W.findIn K (.ref C) "__eq__" = some (some (.ref f))) (hf : PySem.W.isFn K (.ref f) = true)
    (h : wpAny (model prog w) A.in1 (call (.ref f) [.ref x, b]) (fun v s' => ∃ r, v = .bool r ∧ Q (.bool (!r)) s') E s) : wpAny (model prog w) A (call (.builtin "object.__ne__") [.ref x, b]) Q E s := by
  refine wpAny_call (codeAny_call_builtin PySem.F.cmp_object.ne.plain PySem.F.cmpEntry_ne ?_)
  refine ne_check X I hm ?_
  have e0 : slotArgs "__ne__" 1 ⟨[.ref x, b], []⟩ = (pure (Value.ref x, [b]) : Sem (Value × List Value)) := by rfl
  unfold Builtin.«object.__ne__»
  rw [e0]
  refine wpAny_bind (wpAny_pure ?_)
  dsimp only
  refine wpAny_bind (wpAny_cRoomFor (by show A.units + 1 < cLine; omega) ?_)
  refine wpAny_bind (PySem.W.ifBound_K X I hs hf (wpAny_mono h (fun v s' ⟨r, e, q⟩ => ?_) fun _ _ e => e))
  subst e
  dsimp only
  refine wpAny_bind (wpAny_truthy_bool ?_)
  exact wpAny_pure q
theorem ne_K {Q : Value → Shared → Prop} (hu : A.units + 3 < cLine) (F : Fr h₀ L s.heap m) (X₀ : K.In h₀) (I : PySem.W.InstAt s.heap x ox C od) (hb : PySem.W.Looks (model prog w) s.heap (typeOf b) tb) (hn : PySem.W.notFirst K C tb = true) (hm : PySem.W.mroIn K C (.type "object") = some true)
    (hne : PySem.W.findIn K (.ref C) "__ne__" = some (some (.builtin "object.__ne__"))) (hs : PySem.W.findIn K (.ref C) "__eq__" = some (some (.ref f))) (hf : PySem.W.isFn K (.ref f) = true)
    (h : wpAny (model prog w) A.in1 (call (.ref f) [.ref x, b]) (fun v s' => ∃ r, v = .bool r ∧ Q (.bool (!r)) s') E s) : wpAny (model prog w) A (richCompare .NotEq (.ref x) b) Q E s := by
  have X := X₀.keeps F.keep
  have one : wpAny (model prog w) A (tryCompare (.ref x) "__ne__" b) (fun r s' => ∃ v, r = some v ∧ Q v s') E s := by
    unfold tryCompare
    refine wpAny_bind (ne_bound X I hne (wpAny_mono (ne_call (Q := fun v s' => ∃ r, v = .bool r ∧ Q v s') (by omega) X I hm hs hf (wpAny_mono h (fun v s' ⟨r, e, q⟩ => ⟨r, e, _, rfl, q⟩) fun _ _ e => e)) (fun v s' hv => ?_) fun _ _ e => e))
    obtain ⟨r, rfl, q⟩ := hv
    exact wpAny_pure ⟨_, rfl, q⟩
  unfold richCompare
  simp only [oneThing_ref]
  refine wpAny_holding (wpAny_bind (wpAny_cRoomFor (by omega) ?_))
  refine wpAny_bind (I.type.here (wpAny_bind (hb.here ?_)))
  split
  · rename_i q
    have e : PySem.W.subIn K tb (.ref C) = some false := by
      rcases Bool.or_eq_true_iff.mp hn with e | e
      · rw [beq_iff_eq.mp e] at q; simp at q
      · exact beq_iff_eq.mp e
    refine wpAny_bind ((PySem.W.looks_subIn X e).here ?_)
    simp only [Bool.false_eq_true, if_false]
    refine wpAny_bind (wpAny_mono one (fun r s' z => ?_) fun _ _ e => e)
    obtain ⟨v, rfl, hq⟩ := z
    exact wpAny_pure hq
  · refine wpAny_bind (wpAny_pure ?_)
    simp only [Bool.false_eq_true, if_false]
    refine wpAny_bind (wpAny_mono one (fun r s' z => ?_) fun _ _ e => e)
    obtain ⟨v, rfl, hq⟩ := z
    exact wpAny_pure hq
end
/-- the own == of the class at C, and what != finds -/
structure EqN (P : Program) (w : World) (K : PySem.W.Frag) (mg : Str → Option Value) (base : Heap) (k : Nat) (C : Addr) (sp : Sp) : Prop where
  ex : ∃ (f : Addr) (fd : FuncData) (ps : List Str), FnOk P w K mg base CX0 k f fd ps sp ∧ PySem.W.findIn K (.ref C) "__eq__" = some (some (.ref f)) ∧ PySem.W.isFn K (.ref f) = true ∧ Binds K fd ps []
  ne : PySem.W.findIn K (.ref C) "__ne__" = some (some (.builtin "object.__ne__"))
  ob : PySem.W.mroIn K C (.type "object") = some true
/-- what may stand on the right: an instance of the class, or a tuple -/
inductive Beside (K : PySem.W.Frag) (H : Hp) (C : Addr) : V → Prop
  | ins {a dx : Addr} {fs : List (Str × V)} (h : H a = some (.ins C dx fs)) : Beside K H C (.ref a)
  | tup {a : Addr} {xs : List V} (h : SqT K H a xs) (n : PySem.W.subIn K (.type "tuple") (.ref C) = some false) : Beside K H C (.ref a)
section
variable {X : Cx} {C : Addr} {k : Nat} {sp : Sp}
theorem beside_looks {pins : List (Addr × Obj)} {σ : L2.St} {H : Hp} {s : Shared} {y : V} {u : Value} (I : Inv X pins σ H s) (h : Beside X.K H C y) (r : RelV y u) : ∃ tb, PySem.W.Looks (model X.prog X.w) s.heap (typeOf u) tb ∧ PySem.W.notFirst X.K C tb = true := by
  cases h with
  | ins e =>
    cases r
    obtain ⟨mB, J, _⟩ := ins_get I.hok e
    obtain ⟨od, J, _⟩ := J.look
    exact ⟨_, J.type, by simp [PySem.W.notFirst]⟩
  | tup e n =>
    cases r
    obtain ⟨its, rv, ⟨o, g, hc, _⟩, _⟩ := I.tuple e
    refine ⟨.type "tuple", hc ▸ (PySem.W.Looks.ld (part := none) g).andThen .now, ?_⟩
    unfold PySem.W.notFirst
    rw [n]
    exact Bool.or_true _
theorem own_call {pins : List (Addr × Obj)} {σ : L2.St} {H : Hp} {s : Shared} {a f : Addr} {y : V} {u : Value} {Q : Bool → Hp → Prop} {fd : FuncData} {ps : List Str} {A : Around} (I : Inv X pins σ H s) (F : FnOk X.prog X.w X.K X.mg X.base CX0 k f fd ps sp) (hb : Binds X.K fd ps []) (hA : A.frames = X.A.frames) (hr : Room k A) (r : RelV y u)
    (h : sp [.ref a, y] H (fun v H' => ∃ b, v = .bl b ∧ Q b H') E0) : wpAny (model X.prog X.w) A (call (.ref f) [.ref a, u]) (fun v s' => ∃ b H', v = .bool b ∧ Inv X pins σ H' s' ∧ Q b H') X.xe s := by
  have e0 : Env0 X.prog X.w X.K X.mg X.base A X.stack s H := by
    have e := I.env0
    exact ⟨by rw [hA]; exact e.frames, e.mod, e.bs, e.bsz, e.funs, e.frf, e.hok, e.bare⟩
  have hl := F.len _ _ _ _ h
  have r2 : Vals [V.ref a, y] [Value.ref a, u] := .cons rfl (.cons r .nil)
  refine wpAny_call (codeAny_mono (F.run A X.stack s H ⟨[.ref a, u], []⟩ [.ref a, u] [.ref a, y] _ E0 hr e0 (by
    have := hb s [.ref a, u] I.kIn (by simpa using hl)
    simpa using this) r2 h) fun r s' hq => ?_)
  cases r with
  | error e => exact (pass0 : Passes CX0 X E0) pins σ H s e s' I hq
  | ok fl =>
    cases fl with
    | ret w =>
      obtain ⟨z, H', I', rz, b, ez, q⟩ := I.after hq
      subst ez
      cases rz
      exact ⟨b, H', rfl, I', q⟩
    | next => exact False.elim hq
    | brk => exact False.elim hq
    | cont => exact False.elim hq
def rOwn (K : PySem.W.Frag) (C : Addr) (sp : Sp) (g : Bool → Bool) : R2 := fun x y H Q => ∃ a dx fs, x = .ref a ∧ H a = some (.ins C dx fs) ∧ Beside K H C y ∧ sp [.ref a, y] H (fun v H' => ∃ b, v = .bl b ∧ Q (.bl (g b)) H') E0
theorem op_eqOwn {j : Nat} (c : EqN X.prog X.w X.K X.mg X.base k C sp) (hr : Room j X.A) (hk : k ≤ j) : OpR X (compareOp .Eq) (rOwn X.K C sp id) := by
  intro pins s σ H x y v u Q I rx ry ⟨a, dx, fs, e1, ha, hb, h⟩
  subst e1
  cases rx
  obtain ⟨f, fd, ps, F, hs, hf, bd⟩ := c.ex
  obtain ⟨mA, J, _⟩ := ins_get I.hok ha
  obtain ⟨od, J, _⟩ := J.look
  obtain ⟨tb, L, n⟩ := beside_looks I hb ry
  obtain ⟨m, hF⟩ := I.fr
  show wpAny (model X.prog X.w) X.A (richCompare .Eq (.ref a) u) (EP X pins σ Q) X.xe s
  refine PySem.W.cmp_K (op := .Eq) (hr.units0) hF I.ok.mod.kin J L n hs hf (wpAny_mono (own_call (Q := fun b H' => Q (.bl b) H') I F bd rfl (hr.mono hk) ry h) (fun v s' ⟨b, H', e, I', q⟩ => ?_) fun _ _ e => e)
  subst e
  exact ⟨.bl b, H', I', rfl, q⟩
theorem op_neOwn {j : Nat} (c : EqN X.prog X.w X.K X.mg X.base k C sp) (hr : Room (j + 1) X.A) (hu : X.A.units + 64 < cLine) (hk : k ≤ j) : OpR X (compareOp .NotEq) (rOwn X.K C sp not) := by
  intro pins s σ H x y v u Q I rx ry ⟨a, dx, fs, e1, ha, hb, h⟩
  subst e1
  cases rx
  obtain ⟨f, fd, ps, F, hs, hf, bd⟩ := c.ex
  obtain ⟨mA, J, _⟩ := ins_get I.hok ha
  obtain ⟨od, J, _⟩ := J.look
  obtain ⟨tb, L, n⟩ := beside_looks I hb ry
  obtain ⟨m, hF⟩ := I.fr
  show wpAny (model X.prog X.w) X.A (richCompare .NotEq (.ref a) u) (EP X pins σ Q) X.xe s
  refine ne_K (by omega) hF I.ok.mod.kin J L n c.ob c.ne hs hf (wpAny_mono (own_call (A := X.A.in1) (Q := fun b H' => Q (.bl (!b)) H') I F bd rfl (hr.in1.mono hk) ry h) (fun v s' ⟨b, H', e, I', q⟩ => ?_) fun _ _ e => e)
  subst e
  exact ⟨b, rfl, .bl (!b), H', I', rfl, q⟩
end
end My

namespace My
open PySem PySem.Spec PyProof.Rows L2
/-- a property of the class at C -/
structure PrpN (P : Program) (w : World) (K : PySem.W.Frag) (mg : Str → Option Value) (base : Heap) (k : Nat) (C : Addr) (f : Str) (sp : Sp) : Prop where
  ex : ∃ (p g : Addr) (fd : FuncData) (ps : List Str), PropOf K C f p g ∧ FnOk P w K mg base CX0 k g fd ps sp ∧ Binds K fd ps []
/-- the class at C made by an __init__ with defaults -/
structure MakD (P : Program) (w : World) (K : PySem.W.Frag) (mg : Str → Option Value) (base : Heap) (cx : CXT) (k : Nat) (x : Str) (C : Addr) (dvs : List V) (sp : Sp) : Prop where
  ex : ∃ (f : Addr) (fd : FuncData) (ps : List Str) (us : List Value), FnOk P w K mg base cx k f fd ps sp ∧ Mk K C f ∧ mg x = some (.ref C) ∧ Binds K fd ps us ∧ Vals dvs us
section
variable {X : Cx} {E : XK} {o e : Expr} {es : List Expr} {σ : L2.St} {H : Hp} {Q : VK} {pos p p2 : Pos} {x f : Str} {C : Addr} {k j : Nat} {sp : Sp} {dvs : List V}
/-- o.f, a property -/
theorem e_prop (c : PrpN X.prog X.w X.K X.mg X.base k C f sp) (cl : Cls X.K C) (hr : Room j X.A) (hk : k + 1 ≤ j) (h : WE X o σ H fun x H1 => ∃ a dx fs, x = .ref a ∧ H1 a = some (.ins C dx fs) ∧ sp [.ref a] H1 Q E0)
    (hb : attributeBase o f X.env (eval o X.env) = eval o X.env := by rfl) : WE X (.Attribute o f pos) σ H Q := by
  obtain ⟨p, g, fd, ps, hp, F, bd⟩ := c.ex
  exact toE (pe_prop pE cl hp F (hr.mono hk) bd .nil pass0 hb) h
/-- C(e, ..), defaults behind -/
theorem e_makeD (c : MakD X.prog X.w X.K X.mg X.base (L2.CX X.prog X.w) k x C dvs sp) (tk : Takes X fun cls d _ H => E cls d H) (hr : Room j X.A) (hk : k + 1 ≤ j)
    (h : WA X (e :: es) σ H fun vs H1 => ∀ a dx, H1 a = none → H1 dx = none → dx ≠ a → sp (.ref a :: (vs ++ dvs)) (upd (upd H1 dx (.own a)) a (.ins C dx [])) (fun v H2 => v = .non ∧ Q (.ref a) H2) E) (hg : Gl X x := by rfl)
    (hdb : (x == ("__debug__" : Str)) = false := by decide) (he : starEach (e :: es) X.env = (false, eval e X.env) :: starEach es X.env := by rfl) (hpl : (backTo pos (starEach es X.env)).any (·.1) = false := by rfl) :
    WE X (.Call (.Name x p) (e :: es) [] pos) σ H Q := by
  obtain ⟨f, fd, ps, us, F, M, hm, hb, hv⟩ := c.ex
  exact toE (pe_make M F (hr.mono hk) hg hm hb hv (passes_call tk fun _ _ _ _ h => h) pA hdb he hpl) (WA.mono h fun vs H1 q a dx n1 n2 n3 => q a dx n1 n2 n3)
/-- C() -/
theorem e_make0 (c : MakN X.prog X.w X.K X.mg X.base CX0 k x C sp) (hr : Room j X.A) (hk : k + 1 ≤ j)
    (h : ∀ a dx, H a = none → H dx = none → dx ≠ a → sp [.ref a] (upd (upd H dx (.own a)) a (.ins C dx [])) (fun v H2 => v = .non ∧ Q (.ref a) H2) E0) (hg : Gl X x := by rfl) (hdb : (x == ("__debug__" : Str)) = false := by decide) :
    WE X (.Call (.Name x p) [] [] pos) σ H Q := by
  obtain ⟨f, fd, ps, F, M, hm, hb⟩ := c.ex
  exact toE (pe_make0 M F (hr.mono hk) hg hm hb .nil pass0 hdb) (fun a dx n1 n2 n3 => h a dx n1 n2 n3)
end
end My

namespace My
open PySem PySem.Spec PyProof.Rows L2
/-! ### comprehensions over zip of two tuples -/
theorem lc_zipT {K : PySem.W.Frag} {a b : Addr} {xs ys : List V} {g : L2.TG} {tt : TT} {te : TE} {vs : List Nat} {σ : L2.St} {H1 : Hp} {D : Addr} {Qd : Hp → Prop} (hl : xs.length = ys.length) (Pv : Nat → Hp → Prop) (h0 : Pv 0 (upd H1 D (.lst []))) (hq : ∀ i H, Pv i H → SqT K H a xs ∧ SqT K H b ys)
    (hs : ∀ (i : Nat) (x y : V) (T : Addr) (H : Hp), xs[i]? = some x → ys[i]? = some y → Pv i H → H T = none → g (.ref T) (wipe σ vs) (upd H T (.tup [x, y])) fun σ2 H2 => wipe σ2 vs = wipe σ vs ∧ tt σ2 H2 fun b H3 =>
      if b = true then te σ2 H3 fun y H4 => ∃ acc, H4 D = some (.lst acc) ∧ acc.length < sizeLine ∧ Pv (i + 1) (upd H4 D (.lst (acc ++ [y]))) else Pv (i + 1) H3) (hd : ∀ H, Pv xs.length H → Qd H) :
    ∃ W : Nat → Nat → Hp → Prop, (∃ m, W 0 m (upd H1 D (.lst []))) ∧ ∀ i m H, W i m H →
      ((RZ.ItzT K a b).stop i H ∧ Qd H) ∨ ((RZ.ItzT K a b).go i H ∧ ∃ Nx : Hp → Prop, (∀ H', Nx H' → ∃ m', m' < m ∧ W (i + 1) m' H') ∧ ∀ x H', (RZ.ItzT K a b).yld i H x H' → g x (wipe σ vs) H' fun σ2 H2 => wipe σ2 vs = wipe σ vs ∧ tt σ2 H2 fun b H3 =>
        if b = true then te σ2 H3 fun y H4 => ∃ acc, H4 D = some (.lst acc) ∧ acc.length < sizeLine ∧ Nx (upd H4 D (.lst (acc ++ [y]))) else Nx H3) := by
  refine ⟨fun i m H => m = xs.length - i ∧ i ≤ xs.length ∧ Pv i H, ⟨xs.length, by simp, Nat.zero_le _, h0⟩, ?_⟩
  rintro i m H ⟨rfl, hi, p⟩
  obtain ⟨qx, qy⟩ := hq i H p
  by_cases hlt : i < xs.length
  · have hx : xs[i]? = some xs[i] := List.getElem?_eq_getElem hlt
    have hlt2 : i < ys.length := by omega
    have hy : ys[i]? = some ys[i] := List.getElem?_eq_getElem hlt2
    refine .inr ⟨⟨xs, ys, _, _, qx, qy, hx, hy⟩, Pv (i + 1), fun H' p' => ⟨xs.length - (i + 1), by omega, rfl, hlt, p'⟩, fun v H' y => ?_⟩
    obtain ⟨T, x', y', rfl, hT, rfl, f1, f2⟩ := y
    exact hs i x' y' T H (f1 xs qx) (f2 ys qy) p hT
  · have e : i = xs.length := by omega
    subst e
    exact .inl ⟨⟨xs, ys, qx, qy, .inl (Nat.le_refl _)⟩, hd H p⟩
section
variable {X : Cx} {σ : L2.St} {H : Hp} {Q : VK} {elt e1 e2 : Expr} {elts : List Expr} {scope : Scope} {pos p pc tpos : Pos} {kk : Nat} {g : L2.TG}
theorem e_lcZ (own : List (Str × Nat)) (hm : X.mg "zip" = none) (hN : X.N.Nodup) (ok : BlkOk X.N X.env.scope scope own)
    (h : WA X [e1, e2] σ H fun vs H1 => ∃ a b xs ys, vs = [.ref a, .ref b] ∧ SqT X.K H1 a xs ∧ SqT X.K H1 b ys ∧ xs.length = ys.length ∧ ∀ D, H1 D = none → ∃ Pv : Nat → Hp → Prop, Pv 0 (upd H1 D (.lst [])) ∧ (∀ i H, Pv i H → SqT X.K H a xs ∧ SqT X.K H b ys) ∧
      (∀ (i : Nat) (x y : V) (T : Addr) (H : Hp), xs[i]? = some x → ys[i]? = some y → Pv i H → H T = none → g (.ref T) (wipe σ (own.map (·.2))) (upd H T (.tup [x, y])) fun σ2 H2 => wipe σ2 (own.map (·.2)) = wipe σ (own.map (·.2)) ∧ WB X scope elt σ2 H2 fun z H4 => ∃ acc, H4 D = some (.lst acc) ∧ acc.length < sizeLine ∧ Pv (i + 1) (upd H4 D (.lst (acc ++ [z])))) ∧
      ∀ H, Pv xs.length H → Q (.ref D) H)
    (hg : ∀ (s : Shared) (H : Hp) (C : Addr) (cl : List (Str × Addr)) (fp : List Addr), PG (X.blk s H scope (compEnvC scope cl C X.env) fp) (.Tuple elts kk tpos) g)
    (hgl : Gl X "zip" := by rfl) (hs1 : starEach [e1, e2] X.env = (false, eval e1 X.env) :: starEach [e2] X.env := by rfl) (hpl : (backTo pc (starEach [e2] X.env)).any (·.1) = false := by rfl)
    (hc : X.calm = true := by rfl) (hs : ∀ z, foldedSetIterable (.Call (.Name "zip" p) [e1, e2] [] pc) X.env z = pure z := by intro _; rfl) :
    WE X (.ListComp elt [⟨.Tuple elts kk tpos, .Call (.Name "zip" p) [e1, e2] [] pc, [], 0⟩] scope pos) σ H Q :=
  toE (pe_lc (own := own) (te := WB X scope elt) hc hN (RZ.pi_zipA hgl hm (pA (es := [e1, e2])) hs1 hpl) ok hg (fun _ _ _ _ _ => pts_nil) (fun s H0 C cl fp => ⟨fun pins s' σ' H' Q' I q => (q s H0 C cl fp).go pins s' I⟩) hs)
    (WA.mono h fun vs H1 ⟨a, b, xs, ys, e, sx, sy, hl, k⟩ => ⟨a, b, xs, ys, e, .inr ⟨sx, sy, fun D nD => by
      obtain ⟨Pv, p0, pq, ps, pd⟩ := k D nD
      exact lc_zipT (te := WB X scope elt) (tt := tYes) (vs := own.map (·.2)) (σ := σ) hl Pv p0 pq ps pd⟩⟩)
end
/-! ### [elt for x, y in a tuple of pairs] -/
section
variable {X : Cx} {ρ : Rho} {a b c e o elt iter : Expr} {es rest : List Expr} {d d1 d2 : PyData} {ds : List PyData} {pos apos p p2 p3 pc pt r1 r2 : Pos} {x y : Str} {k m : Bool} {scope : Scope} {kt : Nat}
theorem set4 {α : Type} (l : List (Option α)) {i j : Nat} (ij : i ≠ j) (x y : Option α) : (((l.set i none).set j none).set i x).set j y = (l.set i x).set j y := by
  rw [List.set_comm none none ij, List.set_set, List.set_comm (l := l) none x ij.symm, List.set_set]
theorem wipe2 (σ : L2.St) {i j : Nat} (ij : i ≠ j) : wipe σ [i, j] = (σ.set i none).set j none := by
  show (σ.set j none).set i none = _
  rw [List.set_comm none none ij]
theorem wipe4 (σ : L2.St) {i j : Nat} (ij : i ≠ j) (x y : V) : wipe ((((wipe σ [i, j])).set i (some x)).set j (some y)) [i, j] = wipe σ [i, j] := by
  rw [wipe2 σ ij, wipe2 _ ij, set4 σ ij, List.set_comm (some y) none ij.symm, List.set_set, List.set_set]
theorem d_lcT2 (i j : Nat) (f : PyData → PyData) (ij : i ≠ j) (hN : X.N.Nodup) (okb : BlkOk X.N X.env.scope scope [(x, i), (y, j)]) (h : ED X ρ iter (.tuple ds)) (l : ds.length ≤ 1000) (hp : ∀ d ∈ ds, ∃ u w, d = .tuple [u, w] ∧ BD X scope ((ρ.set i (some u)).set j (some w)) elt (f d))
    (hg : ∀ (s : Shared) (H : Hp) (C : Addr) (cl : List (Str × Addr)) (fp : List Addr), PG (X.blk s H scope (compEnvC scope cl C X.env) fp) (.Tuple [.Name x r1, .Name y r2] kt pt) (gTup X.K 2 (gCons (gName i) (gCons (gName j) gNil))))
    (hc : X.calm = true := by rfl) (hs : ∀ z, foldedSetIterable iter X.env z = pure z := by intro _; rfl) : ED X ρ (.ListComp elt [⟨.Tuple [.Name x r1, .Name y r2] kt pt, iter, [], 0⟩] scope pos) (.list (ds.map f)) := fun S σ H Q sl q => by
  refine toE (pe_lc (own := [(x, i), (y, j)]) (te := WB X scope elt) hc hN (pi_tup pE) okb hg (fun _ _ _ _ _ => pts_nil) (fun s H0 C cl fp => ⟨fun pins s' σ' H' Q' I q => (q s H0 C cl fp).go pins s' I⟩) hs) (h S σ H _ sl fun v H1 s1 g1 => ?_)
  obtain ⟨a, xs, rfl, ha, hds, sq⟩ := g1.seq (K := X.K)
  refine ⟨a, rfl, ⟨xs, sq⟩, fun D nD => ?_⟩
  have sl1 := sl.same s1
  have slD := sl1.and1 (o := .lst []) nD
  have hdsD := hds.mono (T := And1 S D) (My.Same.tups (same_new (o := .lst []) nD)) fun a u n e => ⟨fun z => z.elim n fun z => (by rw [z, nD] at e; cases e), by rw [upd_ne (ne_of_none e nD)]; exact e⟩
  have lx := hds.length
  refine lc_tup (xs := xs) (g := gTup X.K 2 (gCons (gName i) (gCons (gName j) gNil))) (tt := tYes) (te := WB X scope elt) (vs := [i, j]) (σ := σ) (fun i H' => ∃ ys, (∀ b o, b ≠ D → (L2.upd H1 D (.lst [])) b = some o → H' b = some o) ∧ H' D = some (.lst ys) ∧ ys.length = i ∧ DGs (And1 S D) H' ys ((ds.take i).map f)) ?_ ?_ ?_ ?_
  · exact ⟨[], fun b o _ e => e, upd_same, rfl, .nil⟩
  · rintro i H' _ ⟨ys, k1, _⟩
    exact .inl (.inl (k1 a _ (ne_of_none ha nD) (same_new nD _ _ ha)))
  · rintro n v H' hi ⟨ys, k1, k2, k3, k4⟩
    obtain ⟨d, hd, hy⟩ := hdsD.get hi
    have keep : ∀ {v : V} {d : PyData}, DG (And1 S D) (L2.upd H1 D (.lst [])) v d → DG (And1 S D) H' v d := fun g => g.mono (fun b xs e => k1 b _ (ne_of e upd_same (fun z => by cases z)) e) fun a o n e => ⟨n, k1 a o (fun z => n (.inr z)) e⟩
    have slp : SL (And1 S D) H' σ ρ := ⟨fun b z w => by
      cases e : (L2.upd H1 D (.lst [])) b with
      | none => exact slD.dom b z e
      | some o =>
        by_cases bD : b = D
        · rw [bD, k2] at w; cases w
        · (rw [k1 b o bD e] at w; cases w), fun i d q => let ⟨v, a, b⟩ := slD.look i d q; ⟨v, a, keep b⟩, slD.len⟩
    obtain ⟨u, w, ed, hb⟩ := hp d (List.mem_of_getElem? hd)
    subst ed
    obtain ⟨t, ts, rfl, ht, hts, sqt⟩ := (keep hy).seq (K := X.K)
    cases hts with
    | cons gu r => cases r with
      | cons gw r =>
        cases r
        rename_i vu vw
        refine ⟨t, _, rfl, sqt, rfl, _, _, rfl, _, _, rfl, rfl, wipe4 σ ij vu vw, ?_⟩
        show WB X scope elt _ _ _
        have sl2 := (SL.set (i := i) slp gu).set (i := j) gw
        have ew : (((wipe σ [i, j]).set i (some vu)).set j (some vw)) = (σ.set i (some vu)).set j (some vw) := by rw [wipe2 σ ij, set4 σ ij]
        rw [ew]
        intro s0 H00 C cl fp
        refine hb s0 H00 C cl fp (And1 S D) _ H' _ sl2 fun z H4 s4 g4 => ?_
        have h4 := s4 _ _ k2
        refine ⟨ys, h4, by rw [k3]; exact Nat.lt_of_lt_of_le (show n < 1001 by have := (List.getElem?_eq_some_iff.mp hd).1; omega) (by decide), ys ++ [z], fun b o n e => ?_, upd_same, by rw [List.length_append, k3]; rfl, ?_⟩
        · rw [upd_ne n]; exact s4 _ _ (k1 b o n e)
        · have lt : n < ds.length := (List.getElem?_eq_some_iff.mp hd).1
          have e : ds[n] = .tuple [u, w] := by rw [List.getElem?_eq_getElem lt] at hd; exact Option.some.inj hd
          rw [List.take_succ_eq_append_getElem lt, List.map_append, e]
          exact ((k4.same s4).append (.cons g4 .nil)).put h4
  · rintro H' ⟨ys, k1, k2, k3, k4⟩
    rw [lx, List.take_length] at k4
    refine q _ H' (s1.trans fun b o e => k1 b o (ne_of_none e nD) (same_new nD b o e)) (.lst k2 (fun z => sl1.dom D z nD) k4.un1)
/-- sep.join(tuple) -/
theorem d_joinT {sep : Str} {zs : List Str} (ho : ED X ρ o (.str sep)) (h : ED X ρ e (.tuple (zs.map PyData.str))) (l : (zs.map (·.length)).sum + zs.length * sep.length ≤ 100000)
    (hs : starEach [e] X.env = [(false, eval e X.env)] := by rfl) (hbase : attributeBase o "join" X.env (eval o X.env) = eval o X.env := by rfl) (hline : (apos.endLine == pos.line) = true := by rfl) :
    ED X ρ (.Call (.Attribute o "join" apos) [e] [] pos) (.str (Txt.join sep zs)) := fun S σ H Q sl q =>
  e_join (ho S σ H _ sl fun v H1 s1 g1 => by
    cases g1
    refine ⟨sep, rfl, h S σ H1 _ (sl.same s1) fun v H2 s2 g2 => ?_⟩
    obtain ⟨m, xs, rfl, hm, gx, sq⟩ := g2.seq (K := X.K)
    rw [gx.unstr] at sq
    exact ⟨m, zs, rfl, .inr sq, Nat.le_trans l (by decide), q _ _ (s1.trans s2) (.str _)⟩) hs hbase hline
/-- str(e) of an int, of a text -/
def numT (i : Int) : Str := toString i
theorem d_strI {i : Int} (hm : X.mg "str" = none) (h : ED X ρ e (.int i)) (hi : i.natAbs.log2 < 1920) (hg : Gl X "str" := by rfl) (he : starEach [e] X.env = (false, eval e X.env) :: starEach [] X.env := by rfl) :
    ED X ρ (.Call (.Name "str" p) [e] [] pos) (.str (numT i)) := fun S σ H Q sl q =>
  e_callT call_str_int hm PyProof.Rows.boot_str (a_cons (h S σ H _ sl fun v H1 s1 g1 => by cases g1; exact a_nil ⟨i, rfl, hi, q _ H1 s1 (.str _)⟩) he) hg (by decide) (by decide) he rfl
theorem d_strS {z : Str} (hm : X.mg "str" = none) (h : ED X ρ e (.str z)) (hg : Gl X "str" := by rfl) (he : starEach [e] X.env = (false, eval e X.env) :: starEach [] X.env := by rfl) :
    ED X ρ (.Call (.Name "str" p) [e] [] pos) (.str z) := fun S σ H Q sl q =>
  e_callT SkE.call_str_str hm PyProof.Rows.boot_str (a_cons (h S σ H _ sl fun v H1 s1 g1 => by cases g1; exact a_nil ⟨z, rfl, q _ H1 s1 (.str _)⟩) he) hg (by decide) (by decide) he rfl
end
/-! ### dicts of the top with patterns: tuples of pairs of texts -/
inductive KParts (K : PySem.W.Frag) : List V → List (Str × Str) → Prop
  | nil : KParts K [] []
  | cons {b : Addr} {s w : Str} {ts : List V} {r : List (Str × Str)} (h : ∀ H, SqT K H b [.str s, .str w]) (t : KParts K ts r) : KParts K (.ref b :: ts) ((s, w) :: r)
structure KPat (K : PySem.W.Frag) (v : V) (pat : List (Str × Str)) : Prop where
  ex : ∃ a ts, v = .ref a ∧ (∀ H, SqT K H a ts) ∧ KParts K ts pat
/-- at a: a dict of patterns -/
def KTab (w : World) (K : PySem.W.Frag) (a : Addr) (tab : List (Str × List (Str × Str))) : Prop := ∀ x pat, (x, pat) ∈ tab → ∃ v, KDct K w a x v ∧ KPat K v pat
theorem KParts.length {K : PySem.W.Frag} : ∀ {ts : List V} {pat : List (Str × Str)}, KParts K ts pat → ts.length = pat.length
  | _, _, .nil => rfl
  | _, _, .cons _ t => congrArg (· + 1) t.length
theorem KParts.get {K : PySem.W.Frag} : ∀ {ts : List V} {pat : List (Str × Str)} {i : Nat} {v : V}, KParts K ts pat → ts[i]? = some v → ∃ b s w, v = .ref b ∧ pat[i]? = some (s, w) ∧ ∀ H, SqT K H b [.str s, .str w]
  | _, _, 0, _, .cons h t, e => by cases e; exact ⟨_, _, _, rfl, rfl, h⟩
  | _, _, i + 1, _, .cons h t, e => by
    obtain ⟨b, s, w, e1, e2, e3⟩ := KParts.get (i := i) t (by simpa using e)
    exact ⟨b, s, w, e1, by simpa using e2, e3⟩
  | _, _, 0, _, .nil, e => by cases e
  | _, _, i + 1, _, .nil, e => by cases e
theorem kseq_mk {K : PySem.W.Frag} {xs : List V} {a : Addr} {oc : Value} {od : Option Addr} {it : Array Value} {m : Nat} {osl : Array (Option Value)} (l : K.lookup a = some ⟨oc, od, .seq it m, osl⟩)
    (h1 : oc = .type "tuple") (h2 : it.size ≤ sizeLine) (h3 : Vals xs it.toList) : ∀ H, SqT K H a xs := fun _ => .inr ⟨_, it, m, l, h1, rfl, h2, h3⟩
inductive KTabL (K : PySem.W.Frag) (a : Addr) : List (Str × List (Str × Str)) → Prop
  | nil : KTabL K a []
  | cons {x : Str} {pat : List (Str × Str)} {pa : Addr} {r : List (Str × List (Str × Str))} (e : PySem.W.nsIn K a x = some (some (.ref pa))) (h : KPat K (.ref pa) pat) (t : KTabL K a r) : KTabL K a ((x, pat) :: r)
theorem KTabL.get {K : PySem.W.Frag} {a : Addr} : ∀ {tab : List (Str × List (Str × Str))} {x : Str} {pat : List (Str × Str)}, KTabL K a tab → (x, pat) ∈ tab → ∃ pa, PySem.W.nsIn K a x = some (some (.ref pa)) ∧ KPat K (.ref pa) pat
  | _, _, _, .nil, h => by cases h
  | _, _, _, .cons e k t, h => by
    rcases List.mem_cons.mp h with h | h
    · cases h; exact ⟨_, e, k⟩
    · exact t.get h
theorem ktab_mk {w : World} {K : PySem.W.Frag} {n : Str} {tab : List (Str × List (Str × Str))} {a : Addr} {oc : Value} {od : Option Addr} {es : Array DictEntry} {m : Nat} {osl : Array (Option Value)} (e : PySem.W.nsIn K mainGlobals n = some (some (.ref a))) (l : K.lookup a = some ⟨oc, od, .dict es m, osl⟩)
    (h1 : oc = .type "dict") (h2 : od = none) (h3 : osl = #[]) (hk : PySem.W.KeysLit w.params es.toList) (t : KTabL K a tab) : ∃ a, PySem.W.nsIn K mainGlobals n = some (some (.ref a)) ∧ KTab w K a tab := by
  subst h1 h2 h3
  refine ⟨a, e, fun x pat hm => ?_⟩
  obtain ⟨pa, e2, kp⟩ := t.get hm
  exact ⟨.ref pa, ⟨es, m, .ref pa, l, hk, e2, rfl⟩, kp⟩
theorem kpair_mk {K : PySem.W.Frag} {s w : Str} {b : Addr} {oc : Value} {od : Option Addr} {t1 t2 : Tok} {m : Nat} {osl : Array (Option Value)} (l : K.lookup b = some ⟨oc, od, .seq #[.str s t1, .str w t2] m, osl⟩) (h1 : oc = .type "tuple") : ∀ H, SqT K H b [.str s, .str w] :=
  kseq_mk l h1 (Nat.le_trans (show 2 ≤ 1000 by decide) (by decide)) (.cons ⟨_, rfl⟩ (.cons ⟨_, rfl⟩ .nil))
theorem kpat1 {K : PySem.W.Frag} {a b0 : Addr} {s0 w0 : Str} {oc : Value} {od : Option Addr} {m : Nat} {osl : Array (Option Value)} (l : K.lookup a = some ⟨oc, od, .seq #[.ref b0] m, osl⟩) (h1 : oc = .type "tuple")
    (p0 : ∀ H, SqT K H b0 [.str s0, .str w0]) : KPat K (.ref a) [(s0, w0)] :=
  ⟨⟨a, [.ref b0], rfl, kseq_mk l h1 (Nat.le_trans (show 1 ≤ 1000 by decide) (by decide)) (.cons rfl (.nil)), .cons p0 (.nil)⟩⟩
theorem kpat2 {K : PySem.W.Frag} {a b0 b1 : Addr} {s0 w0 s1 w1 : Str} {oc : Value} {od : Option Addr} {m : Nat} {osl : Array (Option Value)} (l : K.lookup a = some ⟨oc, od, .seq #[.ref b0, .ref b1] m, osl⟩) (h1 : oc = .type "tuple")
    (p0 : ∀ H, SqT K H b0 [.str s0, .str w0]) (p1 : ∀ H, SqT K H b1 [.str s1, .str w1]) : KPat K (.ref a) [(s0, w0), (s1, w1)] :=
  ⟨⟨a, [.ref b0, .ref b1], rfl, kseq_mk l h1 (Nat.le_trans (show 2 ≤ 1000 by decide) (by decide)) (.cons rfl (.cons rfl (.nil))), .cons p0 (.cons p1 (.nil))⟩⟩
theorem kpat3 {K : PySem.W.Frag} {a b0 b1 b2 : Addr} {s0 w0 s1 w1 s2 w2 : Str} {oc : Value} {od : Option Addr} {m : Nat} {osl : Array (Option Value)} (l : K.lookup a = some ⟨oc, od, .seq #[.ref b0, .ref b1, .ref b2] m, osl⟩) (h1 : oc = .type "tuple")
    (p0 : ∀ H, SqT K H b0 [.str s0, .str w0]) (p1 : ∀ H, SqT K H b1 [.str s1, .str w1]) (p2 : ∀ H, SqT K H b2 [.str s2, .str w2]) : KPat K (.ref a) [(s0, w0), (s1, w1), (s2, w2)] :=
  ⟨⟨a, [.ref b0, .ref b1, .ref b2], rfl, kseq_mk l h1 (Nat.le_trans (show 3 ≤ 1000 by decide) (by decide)) (.cons rfl (.cons rfl (.cons rfl (.nil)))), .cons p0 (.cons p1 (.cons p2 (.nil)))⟩⟩
theorem kpat4 {K : PySem.W.Frag} {a b0 b1 b2 b3 : Addr} {s0 w0 s1 w1 s2 w2 s3 w3 : Str} {oc : Value} {od : Option Addr} {m : Nat} {osl : Array (Option Value)} (l : K.lookup a = some ⟨oc, od, .seq #[.ref b0, .ref b1, .ref b2, .ref b3] m, osl⟩) (h1 : oc = .type "tuple")
    (p0 : ∀ H, SqT K H b0 [.str s0, .str w0]) (p1 : ∀ H, SqT K H b1 [.str s1, .str w1]) (p2 : ∀ H, SqT K H b2 [.str s2, .str w2]) (p3 : ∀ H, SqT K H b3 [.str s3, .str w3]) : KPat K (.ref a) [(s0, w0), (s1, w1), (s2, w2), (s3, w3)] :=
  ⟨⟨a, [.ref b0, .ref b1, .ref b2, .ref b3], rfl, kseq_mk l h1 (Nat.le_trans (show 4 ≤ 1000 by decide) (by decide)) (.cons rfl (.cons rfl (.cons rfl (.cons rfl (.nil))))), .cons p0 (.cons p1 (.cons p2 (.cons p3 (.nil))))⟩⟩
theorem kpat5 {K : PySem.W.Frag} {a b0 b1 b2 b3 b4 : Addr} {s0 w0 s1 w1 s2 w2 s3 w3 s4 w4 : Str} {oc : Value} {od : Option Addr} {m : Nat} {osl : Array (Option Value)} (l : K.lookup a = some ⟨oc, od, .seq #[.ref b0, .ref b1, .ref b2, .ref b3, .ref b4] m, osl⟩) (h1 : oc = .type "tuple")
    (p0 : ∀ H, SqT K H b0 [.str s0, .str w0]) (p1 : ∀ H, SqT K H b1 [.str s1, .str w1]) (p2 : ∀ H, SqT K H b2 [.str s2, .str w2]) (p3 : ∀ H, SqT K H b3 [.str s3, .str w3]) (p4 : ∀ H, SqT K H b4 [.str s4, .str w4]) : KPat K (.ref a) [(s0, w0), (s1, w1), (s2, w2), (s3, w3), (s4, w4)] :=
  ⟨⟨a, [.ref b0, .ref b1, .ref b2, .ref b3, .ref b4], rfl, kseq_mk l h1 (Nat.le_trans (show 5 ≤ 1000 by decide) (by decide)) (.cons rfl (.cons rfl (.cons rfl (.cons rfl (.cons rfl (.nil)))))), .cons p0 (.cons p1 (.cons p2 (.cons p3 (.cons p4 (.nil)))))⟩⟩
/-! ### defs by a relation on data -/
def spR (R : List PyData → PyData → Prop) : Sp := fun vs H Q _ => ∃ S ds d, DGs S H vs ds ∧ (∀ a, S a → H a ≠ none) ∧ R ds d ∧ ∀ v H', Same H H' → DG S H' v d → Q v H'
theorem d_callR {X : Cx} {ρ : Rho} {e : Expr} {es : List Expr} {ds : List PyData} {d : PyData} {x : Str} {p pos : Pos} {kk j : Nat} {R : List PyData → PyData → Prop} (cF : CalN X.prog X.w X.K X.mg X.base kk x (spR R)) (hr : Room j X.A) (hk : kk ≤ j) (h : AD X ρ (e :: es) ds) (hF : R ds d) (hg : Gl X x := by rfl)
    (hdb : (x == ("__debug__" : Str)) = false := by decide) (he : starEach (e :: es) X.env = (false, eval e X.env) :: starEach es X.env := by rfl) (hpl : (backTo pos (starEach es X.env)).any (·.1) = false := by rfl) : ED X ρ (.Call (.Name x p) (e :: es) [] pos) d := fun S σ H Q sl q =>
  e_c cF hr hk (h S σ H _ sl fun vs H1 s1 g1 => by
    rw [List.append_nil]
    exact ⟨S, ds, d, g1, in_same s1 sl.dom, hF, fun v H2 s2 g2 => q v H2 (s1.trans s2) g2⟩) hg hdb he hpl
theorem Fun.okR {P : Program} {w : World} {K : PySem.W.Frag} {mg : Str → Option Value} {base : Heap} {x qual : Str} {st : Stmt} {f : Addr} {fd : FuncData} {N ps : List Str} {k : Nat} {R : List PyData → PyData → Prop} (F : Fun K x qual st f fd) (S : FnScope N ps (defScope st))
    (len : ∀ ds d, R ds d → ds.length = ps.length)
    (body : ∀ (cdv : Value) (B : Around) (out : List Env) (s : Shared) (H : Hp) (E : XK) (ds : List PyData) (d : PyData), Room k (B.deeper (envOfC qual (defScope st) s.heap.objs.size f cdv)) → R ds d →
      LD (cxOf CX0 P w K mg base N qual (defScope st) f cdv B out s H E).nox (startD N ds) (defBody st) (.ret d)) : FnOk P w K mg base CX0 (k + 1) f fd ps (spR R) :=
  Fun.okW F S (fun vs H Q E ⟨S0, ds, d, g, _, e, _⟩ => by rw [g.length]; exact len ds d e) fun cdv B out s H vs Q E hr ⟨S0, ds, d, g, hS, e, q⟩ =>
    body cdv B out s H E ds d hr e S0 _ H _ (sl_start g hS) q
theorem sum_le {α : Type} {f : α → Nat} {b : Nat} : ∀ {l : List α}, (∀ x ∈ l, f x ≤ b) → (l.map f).sum ≤ l.length * b
  | [], _ => Nat.zero_le _
  | x :: l, h => by
    have h1 := h x List.mem_cons_self
    have h2 := sum_le (l := l) fun y hy => h y (List.mem_cons_of_mem _ hy)
    rw [List.map_cons, List.sum_cons, List.length_cons, Nat.add_mul, Nat.one_mul]
    omega
theorem len_join : ∀ (s : Str) (l : List Str), (Txt.join s l).length ≤ (l.map (·.length)).sum + l.length * s.length
  | s, [] => Nat.zero_le _
  | s, a :: l => by
    show (cs (Txt.join s (a :: l))).length ≤ _
    rw [cs_join, List.length_append, List.length_flatten, List.map_map, List.map_cons, List.sum_cons, List.length_cons, Nat.add_mul, Nat.one_mul]
    have e : ∀ m : List Str, (m.map (List.length ∘ fun p => cs s ++ cs p)).sum = (m.map (·.length)).sum + m.length * s.length := fun m => by
      induction m with
      | nil => simp
      | cons x m ih =>
        rw [List.map_cons, List.sum_cons, ih, List.map_cons, List.sum_cons, List.length_cons, Nat.add_mul, Nat.one_mul]
        show (cs s ++ cs x).length + _ = _
        rw [List.length_append]
        have e1 : (cs s).length = s.length := rfl
        have e2 : (cs x).length = x.length := rfl
        omega
    rw [e l]
    have e3 : (cs a).length = a.length := rfl
    omega
theorem lenC (a b : Str) : (a ++ b).length = a.length + b.length := by
  show (cs (a ++ b)).length = _
  rw [cs_cat, List.length_append]
  rfl
/-! ### texts with a bound on their length -/
structure EDS (X : Cx) (ρ : Rho) (e : Expr) (z : Str) (b : Nat) : Prop where
  h : ED X ρ e (.str z)
  l : z.length ≤ b
section
variable {X : Cx} {ρ : Rho} {a b e : Expr} {y z : Str} {m n : Nat} {pos p : Pos}
theorem eds_c {j} (h : z.length ≤ 100 := by decide) : EDS X ρ (.Constant (.str z) j p) z 100 := ⟨d_str z, h⟩
theorem eds_of (h : ED X ρ e (.str z)) (l : z.length ≤ n) : EDS X ρ e z n := ⟨h, l⟩
theorem eds_add (h : EDS X ρ a y m) (k : EDS X ρ b z n) (l : m + n ≤ 100000 := by decide) : EDS X ρ (.BinOp a .Add b pos) (y ++ z) (m + n) :=
  ⟨d_addS h.h k.h (by have := h.l; have := k.l; omega), by rw [lenC]; have := h.l; have := k.l; omega⟩
theorem EDS.cast (h : EDS X ρ e y n) (q : y = z) : EDS X ρ e z n := q ▸ h
end
/-! ### dicts with text keys -/
section
variable {X : Cx} {σ : L2.St} {H : Hp} {Q : VK} {D : Ends} {o e f v : Expr} {pos pos' apos : Pos}
theorem e_dnewK (q : ∀ p, H p = none → Q (.ref p) (upd H p (.dK []))) : WE X (.Dict [] [] pos) σ H Q := toE pe_dnewK q
/-- o.get(e, f) -/
theorem e_dgetS (hu : X.A.units + 1 < cLine) (h : WE X o σ H fun x H1 => ∃ a kvs, x = .ref a ∧ H1 a = some (.dK kvs) ∧ WE X e σ H1 fun y H2 => ∃ z : Str, y = .str z ∧ WE X f σ H2 fun u H3 => ∃ kvs, H3 a = some (.dK kvs) ∧ Q ((valV kvs (Sum.inr z)).getD u) H3)
    (base : attributeBase o "get" X.env (eval o X.env) = eval o X.env := by rfl)
    (few : ((backTo pos (starEach [e, f] X.env)).all (fun x => !x.1) && (backToKw pos (keywordEach [] X.env)).all (fun x => x.1.isSome) && decide (([e, f] : List Expr).length + ([] : List Keyword).length + (if ([] : List Keyword).isEmpty then 0 else 1) < 30)) = true := by rfl)
    (line : (apos.endLine == pos.line) = true := by rfl) (trees : backTo pos (starEach [e, f] X.env) = [(false, eval e X.env), (false, eval f X.env)] := by rfl) :
    WE X (.Call (.Attribute o "get" apos) [e, f] [] pos) σ H Q :=
  toE (pe_dget2 hu pE pE pE ⟨base, few, line, trees⟩) (WE.mono h fun x H1 ⟨a, kvs, ex, ha, k⟩ => ⟨a, ex, .inl ⟨kvs, .inl ha⟩, WE.mono k fun y H2 ⟨z, ez, k2⟩ => WE.mono k2 fun u H3 ⟨kvs3, h3, q⟩ => ⟨_, by rw [ez]; exact DGet.k (k := Sum.inr z) h3, q⟩⟩)
/-- o[e] = v -/
theorem s_dputS (hu : X.A.units + 1 < cLine) (h : WE X v σ H fun r H1 => WE X o σ H1 fun x H2 => WE X e σ H2 fun y H3 => ∃ a kvs, ∃ z : Str, x = .ref a ∧ y = .str z ∧ H3 a = some (.dK kvs) ∧ kvs.length < sizeLine ∧ D.nx σ (upd H3 a (.dK (putK kvs (Sum.inr z) r))))
    (hs : swapsWith v (some (.Subscript o e pos')) pos.line X.env = pure false := by rfl) : WS X (.Assign [.Subscript o e pos'] v pos) D σ H :=
  toS (ps_dput hu pE pE pE hs) (WE.mono h fun r H1 k => WE.mono k fun x H2 k2 => WE.mono k2 fun y H3 ⟨a, kvs, z, ex, ey, h3, hl, q⟩ => ⟨a, _, ex, by rw [ey]; exact DPut.k (k := Sum.inr z) h3 hl, q⟩)
end
end My

namespace My
open PySem PySem.Spec PyProof.Rows L2 PySem.Builtin PySem.Builtin.Str
/-! ### text.split(sep), sign by sign -/
/-- cut at the first y: what stands ahead of it and behind -/
def cutC (y : Cs) : Cs → Option (Cs × Cs)
  | [] => none
  | c :: l => if y.isPrefixOf (c :: l) = true then some ([], (c :: l).drop y.length) else (cutC y l).map fun p => (c :: p.1, p.2)
def splitC (y : Cs) : Nat → Cs → List Cs
  | 0, l => [l]
  | n + 1, l => match cutC y l with
    | none => [l]
    | some p => p.1 :: splitC y n p.2
/-- the places of y from i on, none ahead of free -/
def occR (y : Cs) : Nat → Nat → Cs → List Nat
  | _, _, [] => []
  | i, free, c :: l => if free ≤ i ∧ y.isPrefixOf (c :: l) = true then i :: occR y (i + 1) (i + y.length) l else occR y (i + 1) free l
theorem occR_cons (y : Cs) (i f c : Nat) (l : Cs) : occR y i f (c :: l) = if f ≤ i ∧ y.isPrefixOf (c :: l) = true then i :: occR y (i + 1) (i + y.length) l else occR y (i + 1) f l := rfl
theorem cutC_cons (y : Cs) (c : Nat) (l : Cs) : cutC y (c :: l) = if y.isPrefixOf (c :: l) = true then some ([], (c :: l).drop y.length) else (cutC y l).map fun p => (c :: p.1, p.2) := rfl
theorem pre_take (y l : Cs) : (l.take y.length == y) = y.isPrefixOf l := by
  apply Bool.eq_iff_iff.mpr
  rw [beq_iff_eq, List.isPrefixOf_iff_prefix, List.prefix_iff_eq_take]
  exact eq_comm
theorem cutC_eq {y : Cs} : ∀ {l p r : Cs}, cutC y l = some (p, r) → l = p ++ (y ++ r)
  | [], _, _, h => by cases h
  | c :: l, p, r, h => by
    unfold cutC at h
    by_cases hp : y.isPrefixOf (c :: l) = true
    · rw [if_pos hp] at h
      cases h
      rw [List.isPrefixOf_iff_prefix] at hp
      obtain ⟨t, ht⟩ := hp
      rw [← ht, List.nil_append, List.drop_left]
    · rw [if_neg hp] at h
      cases q : cutC y l with
      | none => rw [q] at h; cases h
      | some x =>
        rw [q] at h
        cases h
        rw [cutC_eq (p := x.1) (r := x.2) q]
        rfl
theorem occ_skip (y : Cs) : ∀ (l : Cs) (i f : Nat), i ≤ f → occR y i f l = occR y f f (l.drop (f - i))
  | [], i, f, _ => by rw [List.drop_nil]; rfl
  | c :: l, i, f, h => by
    by_cases e : i = f
    · subst e
      rw [Nat.sub_self, List.drop_zero]
    · have h1 : i + 1 ≤ f := by omega
      have e1 : occR y i f (c :: l) = occR y (i + 1) f l := by
        show (if f ≤ i ∧ _ then _ else _) = _
        rw [if_neg (fun z => by omega)]
      have e2 : f - i = (f - (i + 1)) + 1 := by omega
      rw [e1, occ_skip y l (i + 1) f h1, e2, List.drop_succ_cons]
theorem occ_cut (y : Cs) (hy : y ≠ []) : ∀ (l : Cs) (i f : Nat), f ≤ i → occR y i f l = match cutC y l with | none => [] | some p => (i + p.1.length) :: occR y (i + p.1.length + y.length) (i + p.1.length + y.length) p.2
  | [], _, _, _ => rfl
  | c :: l, i, f, h => by
    rw [occR_cons, cutC_cons]
    by_cases hp : y.isPrefixOf (c :: l) = true
    · have hl : 1 ≤ y.length := by
        cases y with
        | nil => exact absurd rfl hy
        | cons a b => exact Nat.succ_pos _
      rw [if_pos ⟨h, hp⟩, if_pos hp, occ_skip y l (i + 1) (i + y.length) (by omega)]
      have e : (c :: l).drop y.length = l.drop (i + y.length - (i + 1)) := by
        rw [show y.length = (i + y.length - (i + 1)) + 1 by omega, List.drop_succ_cons]
        congr 1
        omega
      rw [e]
      rfl
    · rw [if_neg (fun z => hp z.2), if_neg hp, occ_cut y hy l (i + 1) f (by omega)]
      cases cutC y l with
      | none => rfl
      | some p =>
        show (i + 1 + p.1.length) :: _ = (i + (p.1.length + 1)) :: occR y (i + (p.1.length + 1) + y.length) (i + (p.1.length + 1) + y.length) p.2
        rw [show i + 1 + p.1.length = i + (p.1.length + 1) by omega]
theorem occ_run (x y : Str) (hy : cs y ≠ []) : ∀ (l : Cs) (i : Nat) (found : Array Nat) (free : Nat), (cs x).drop i = l → i + l.length = x.length → found.size ≤ i →
    (Id.run (forIn (List.range' i (l.length + 1)) (found, free) (StrLaws.occBody x y x.length (x.length + 1)))).fst.toList = found.toList ++ occR (cs y) i free l
  | [], i, found, free, hd, hl, hf => by
    have hn : ¬ (((found.size < x.length + 1 ∧ free ≤ i) ∧ i + y.length ≤ x.length) ∧ subAt x y i = true) := fun z => by
      have h1 : 1 ≤ y.length := by
        show 1 ≤ (cs y).length
        cases q : cs y with
        | nil => exact absurd q hy
        | cons a b => exact Nat.succ_pos _
      have := z.1.2
      rw [List.length_nil] at hl
      omega
    show (Id.run (forIn [i] (found, free) (StrLaws.occBody x y x.length (x.length + 1)))).fst.toList = _
    rw [List.forIn_cons]
    unfold StrLaws.occBody
    rw [if_neg hn]
    show found.toList = found.toList ++ []
    rw [List.append_nil]
  | c :: l, i, found, free, hd, hl, hf => by
    have hd2 : (cs x).drop (i + 1) = l := by rw [← List.drop_drop, hd]; rfl
    have hl2 : i + 1 + l.length = x.length := by rw [List.length_cons] at hl; omega
    have hs : subAt x y i = (cs y).isPrefixOf (c :: l) := by
      rw [StrLaws.subAt_eq, ← hd, ← pre_take]
      rfl
    have hr : List.range' i ((c :: l).length + 1) = i :: List.range' (i + 1) (l.length + 1) := rfl
    rw [hr, List.forIn_cons]
    unfold StrLaws.occBody
    by_cases hp : free ≤ i ∧ (cs y).isPrefixOf (c :: l) = true
    · have hle : i + y.length ≤ x.length := by
        have h1 := hp.2
        rw [List.isPrefixOf_iff_prefix] at h1
        have h2 : (cs y).length ≤ (c :: l).length := h1.length_le
        have h3 : (cs y).length = y.length := rfl
        omega
      rw [if_pos ⟨⟨⟨by show found.size < _; omega, hp.1⟩, hle⟩, by rw [hs]; exact hp.2⟩]
      have ih := occ_run x y hy l (i + 1) (found.push i) (i + y.length) hd2 hl2 (by rw [Array.size_push]; omega)
      show (Id.run (forIn (List.range' (i + 1) (l.length + 1)) (found.push i, i + y.length) (StrLaws.occBody x y x.length (x.length + 1)))).fst.toList = _
      rw [ih]
      have e : occR (cs y) i free (c :: l) = i :: occR (cs y) (i + 1) (i + (cs y).length) l := by
        show (if _ then _ else _) = _
        rw [if_pos hp]
      rw [e]
      have e2 : (cs y).length = y.length := rfl
      rw [e2]
      simp
    · rw [if_neg (fun z => hp ⟨z.1.1.2, by rw [← hs]; exact z.2⟩)]
      have ih := occ_run x y hy l (i + 1) found free hd2 hl2 (by omega)
      show (Id.run (forIn (List.range' (i + 1) (l.length + 1)) (found, free) (StrLaws.occBody x y x.length (x.length + 1)))).fst.toList = _
      rw [ih]
      have e : occR (cs y) i free (c :: l) = occR (cs y) (i + 1) free l := by
        show (if _ then _ else _) = _
        rw [if_neg hp]
      rw [e]
theorem occ_all (x y : Str) (hy : cs y ≠ []) : occurrences x y 0 x.length (x.length + 1) = occR (cs y) 0 0 (cs x) := by
  rw [StrLaws.occ_eq]
  have h := occ_run x y hy (cs x) 0 #[] 0 rfl (Nat.zero_add _) (Nat.le_refl _)
  have e : x.length + 1 - 0 = (cs x).length + 1 := rfl
  rw [e, h]
  rfl
theorem cs_sub (x : Str) (a c : Nat) : cs (strSub x a c) = ((cs x).drop a).take (c - a) := StrLaws.strSub_toList x a c
theorem parts_split (x y : Str) (hy : cs y ≠ []) : ∀ (n : Nat) (l : Cs) (a : Nat), (cs x).drop a = l → a ≤ x.length → l.length < n → (StrLaws.partsFrom x y.length a (occR (cs y) a a l)).map cs = splitC (cs y) n l
  | 0, _, _, _, _, h => by omega
  | n + 1, l, a, hd, ha, h => by
    have hlen : (cs x).length = x.length := rfl
    have hl : l.length = x.length - a := by rw [← hd, List.length_drop, hlen]
    rw [occ_cut (cs y) hy l a a (Nat.le_refl _)]
    unfold splitC
    cases q : cutC (cs y) l with
    | none =>
      show [cs (strSub x a x.length)] = [l]
      rw [cs_sub, hd, List.take_of_length_le (by omega)]
    | some p =>
      have e := cutC_eq (p := p.1) (r := p.2) q
      have hy1 : 1 ≤ (cs y).length := by
        cases z : cs y with
        | nil => exact absurd z hy
        | cons a b => exact Nat.succ_pos _
      have hy2 : (cs y).length = y.length := rfl
      have hll : l.length = p.1.length + ((cs y).length + p.2.length) := by
        have := congrArg List.length e
        rw [List.length_append, List.length_append] at this
        exact this
      have hd2 : (cs x).drop (a + p.1.length + (cs y).length) = p.2 := by
        rw [Nat.add_assoc, ← List.drop_drop, hd, e, ← List.append_assoc, ← List.length_append, List.drop_left]
      have ih := parts_split x y hy n p.2 (a + p.1.length + (cs y).length) hd2 (by omega) (by omega)
      show cs (strSub x a (a + p.1.length)) :: (StrLaws.partsFrom x y.length (a + p.1.length + y.length) (occR (cs y) (a + p.1.length + (cs y).length) (a + p.1.length + (cs y).length) p.2)).map cs = p.1 :: splitC (cs y) n p.2
      rw [← hy2] at ih ⊢
      rw [ih, cs_sub, hd, show a + p.1.length - a = p.1.length by omega]
      congr 1
      conv => lhs; rw [e]
      rw [List.take_left]
theorem sm_kind {x : Str} (h : Sm x) : PySem.Builtin.Str.strKind x = 1 := by
  unfold PySem.Builtin.Str.strKind
  rw [if_pos]
  rw [← Array.all_toList]
  exact List.all_eq_true.mpr fun c hc => decide_eq_true (Nat.lt_of_lt_of_le (h c hc) (by decide))
theorem split_eq {x y : Str} (hx : Sm x) (hyS : Sm y) (hy : cs y ≠ []) : (Txt.split x y).map cs = splitC (cs y) (x.length + 1) (cs x) := by
  have hp := parts_split x y hy (x.length + 1) (cs x) 0 rfl (Nat.zero_le _) (Nat.lt_succ_self _)
  unfold Txt.split
  rw [sm_kind hx, sm_kind hyS, occ_all x y hy]
  by_cases h1 : x.length < y.length
  · rw [if_pos (by rw [decide_eq_true h1]; rfl)]
    have hn : cutC (cs y) (cs x) = none := by
      cases q : cutC (cs y) (cs x) with
      | none => rfl
      | some p =>
        have := congrArg List.length (cutC_eq (p := p.1) (r := p.2) q)
        rw [List.length_append, List.length_append] at this
        have e1 : (cs x).length = x.length := rfl
        have e2 : (cs y).length = y.length := rfl
        omega
    unfold splitC
    rw [hn]
    rfl
  · rw [if_neg (by rw [decide_eq_false h1]; decide)]
    by_cases h2 : (occR (cs y) 0 0 (cs x)).isEmpty = true
    · rw [if_pos h2]
      rw [List.isEmpty_iff.mp h2] at hp
      rw [← hp]
      show [cs x] = [cs (strSub x 0 x.length)]
      rw [StrLaws.sub_whole]
    · rw [if_neg h2, StrLaws.partsBetween_eq, ← hp]
/-! where the first cut is -/
theorem cutC_at {y r : Cs} {s0 : Nat} (h0 : y.head? = some s0) : ∀ (a : Cs), (∀ a1 u, a = a1 ++ s0 :: u → y.isPrefixOf (s0 :: u ++ (y ++ r)) = false) → cutC y (a ++ (y ++ r)) = some (a, r)
  | [], _ => by
    have hp : y.isPrefixOf (y ++ r) = true := by rw [List.isPrefixOf_iff_prefix]; exact List.prefix_append ..
    cases y with
    | nil => cases h0
    | cons c y =>
      have e : cutC (c :: y) ([] ++ (c :: y ++ r)) = if (c :: y).isPrefixOf (c :: y ++ r) = true then some ([], (c :: y ++ r).drop (c :: y).length) else (cutC (c :: y) (y ++ r)).map fun p => (c :: p.1, p.2) := rfl
      rw [e, if_pos hp, List.drop_left]
  | c :: a, h => by
    have hn : y.isPrefixOf (c :: (a ++ (y ++ r))) = false := by
      by_cases e : c = s0
      · subst e
        exact h [] a rfl
      · cases y with
        | nil => cases h0
        | cons d y =>
          have ed : d = s0 := by simpa using h0
          show (d == c && _) = false
          rw [show (d == c) = false from beq_false_of_ne (fun z => e (z ▸ ed))]
          rfl
    have e : cutC y (c :: a ++ (y ++ r)) = if y.isPrefixOf (c :: (a ++ (y ++ r))) = true then some ([], (c :: (a ++ (y ++ r))).drop y.length) else (cutC y (a ++ (y ++ r))).map fun p => (c :: p.1, p.2) := rfl
    rw [e, if_neg (by rw [hn]; decide), cutC_at h0 a fun a1 u e => h (c :: a1) u (by rw [e]; rfl)]
    rfl
theorem cutC_no {y : Cs} {s0 : Nat} (h0 : y.head? = some s0) : ∀ (l : Cs), (∀ a1 u, l = a1 ++ s0 :: u → y.isPrefixOf (s0 :: u) = false) → cutC y l = none
  | [], _ => rfl
  | c :: l, h => by
    have hn : y.isPrefixOf (c :: l) = false := by
      by_cases e : c = s0
      · subst e
        exact h [] l rfl
      · cases y with
        | nil => cases h0
        | cons d y =>
          have ed : d = s0 := by simpa using h0
          show (d == c && _) = false
          rw [show (d == c) = false from beq_false_of_ne (fun z => e (z ▸ ed))]
          rfl
    rw [cutC_cons, if_neg (by rw [hn]; decide), cutC_no h0 l fun a1 u e => h (c :: a1) u (by rw [e]; rfl)]
    rfl
theorem split1 {y : Cs} {n : Nat} {l : Cs} (h : cutC y l = none) : splitC y n l = [l] := by
  cases n with
  | zero => rfl
  | succ n => unfold splitC; rw [h]
theorem split2 {y : Cs} {n : Nat} {l a r : Cs} (h : cutC y l = some (a, r)) : splitC y (n + 1) l = a :: splitC y n r := by
  show (match cutC y l with | none => [l] | some p => p.1 :: splitC y n p.2) = _
  rw [h]
end My

namespace My
open PySem PySem.Spec PyProof.Rows L2
/-! ### reading a statement by splits -/
def strD (l : Cs) : PyData := .str (mkS l)
def partsC (y l : Cs) : List Cs := splitC y (l.length + 1) l
def cellIn (l : Cs) : PyData := match partsC (cs ".") l with
  | [p] => .tuple [.none, strD p]
  | ps => .tuple (ps.map strD)
def lsStep (s : List Cs × Cs × Int) (c : Nat) : List Cs × Cs × Int :=
  if c = 32 ∧ s.2.2 + (if c = 40 then 1 else 0) - (if c = 41 then 1 else 0) = 0 ∧ s.2.1.getLast? = some 44 then (s.1 ++ [s.2.1.dropLast], [], s.2.2 + (if c = 40 then 1 else 0) - (if c = 41 then 1 else 0))
  else (s.1, s.2.1 ++ [c], s.2.2 + (if c = 40 then 1 else 0) - (if c = 41 then 1 else 0))
def outL (s : List Cs × Cs × Int) : List Cs := s.1 ++ [s.2.1]
def listedC (l : Cs) : List Cs := outL (l.foldl lsStep ([], [], 0))
def sl1 (l : Cs) : Cs := l.dropLast.drop 1
def termIn : Nat → Cs → PyData
  | 0, l => if l.head? = some 39 then strD (sl1 l) else cellIn l
  | k + 1, l => if l.head? = some 39 then strD (sl1 l) else if (partsC (cs "(") l).headD [] = l then cellIn l else
    .tuple (.str "call" :: (els (cellIn ((partsC (cs "(") l).headD [])) ++ [.tuple ((listedC (l.dropLast.drop (((partsC (cs "(") l).headD []).length + 1))).map (termIn k))]))
def toldIn (l : Cs) : PyData := if l.drop (l.length - 2) = cs ".*" then .tuple [.str "star", strD l.dropLast.dropLast] else
  .tuple [.str (if pairD (termIn 4 ((partsC (cs " as ") l).headD [])) = true then "column" else "term"), termIn 4 ((partsC (cs " as ") l).headD []),
    if 1 < (partsC (cs " as ") l).length ∨ pairD (termIn 4 ((partsC (cs " as ") l).headD [])) = false then strD ((partsC (cs " as ") l).getLastD []) else at' (termIn 4 ((partsC (cs " as ") l).headD [])) 1]
def askIn (l : Cs) : PyData := match partsC (cs " in (") l with
  | [p, q] => .tuple [.str "in", cellIn p, .tuple ((partsC (cs ", ") q.dropLast).map fun v => strD (sl1 v))]
  | _ => .tuple [.str "equal", cellIn ((partsC (cs " = ") l).headD []), cellIn ((partsC (cs " = ") l).getLastD [])]
def originIn (l : Cs) : PyData := .tuple (els (cellIn ((partsC (cs " ") l).headD [])) ++ [if 1 < (partsC (cs " ") l).length then strD ((partsC (cs " ") l).getLastD []) else (els (cellIn ((partsC (cs " ") l).headD []))).getLastD .none])
def isDis (l : Cs) : Bool := decide (l.take 16 = cs "select distinct ")
def halves (l : Cs) : List Cs := partsC (cs " from ") (l.drop (if isDis l = true then 16 else 7))
def ends (l : Cs) : List Cs := partsC (cs " where ") ((halves l).getLastD [])
def asksIn (es : List Cs) : List PyData := match es with
  | _ :: c :: _ => (partsC (cs " and ") c).map askIn
  | _ => []
def dueS (l : Cs) : PyData := .tuple [.bool (isDis l), .tuple ((listedC ((halves l).headD [])).map toldIn), .tuple ((partsC (cs ", ") ((ends l).headD [])).map originIn), .tuple (asksIn (ends l))]
def dueD (z : Str) : PyData := if stD (dueS (cs z)) = true ∧ writeT (dueS (cs z)) = z then dueS (cs z) else .str "none"
/-! ### cuts -/
theorem csi {x y : Str} (h : cs x = cs y) : x = y := by rw [← mkS_cs x, h, mkS_cs]
theorem strD_cs (z : Str) : strD (cs z) = .str z := by unfold strD; rw [mkS_cs]
def NoC (y : Cs) (s0 : Nat) (x r : Cs) : Prop := ∀ a u, x = a ++ s0 :: u → y.isPrefixOf (s0 :: u ++ r) = false
theorem noC_mem {y x r : Cs} {s0 : Nat} (h : s0 ∉ x) : NoC y s0 x r := fun a u e => absurd (by rw [e]; simp) h
def joinC (y : Cs) : List Cs → Cs
  | [] => []
  | x :: l => x ++ (l.map fun p => y ++ p).flatten
theorem cs_joinC (s : Str) (l : List Str) : cs (Txt.join s l) = joinC (cs s) (l.map cs) := by
  cases l with
  | nil => rfl
  | cons a l =>
    rw [cs_join]
    show _ = cs a ++ ((l.map cs).map fun p => cs s ++ p).flatten
    rw [List.map_map]
    rfl
theorem split_join {y : Cs} {s0 : Nat} (h0 : y.head? = some s0) : ∀ (l : List Cs) (x : Cs) (n : Nat), l.length < n → (∀ x' ∈ x :: l, ∀ r, (r = [] ∨ ∃ r', r = y ++ r') → NoC y s0 x' r) → splitC y n (joinC y (x :: l)) = x :: l
  | [], x, n, _, h => by
    have e : joinC y [x] = x := List.append_nil x
    rw [e]
    exact split1 (cutC_no h0 x fun a u e => by have := h x List.mem_cons_self [] (.inl rfl) a u e; rwa [List.append_nil] at this)
  | p :: l, x, n + 1, hn, h => by
    have e : joinC y (x :: p :: l) = x ++ (y ++ joinC y (p :: l)) := by
      show x ++ ((y ++ p) ++ (l.map fun p => y ++ p).flatten) = _
      rw [List.append_assoc]
      rfl
    rw [e, split2 (cutC_at h0 x (h x List.mem_cons_self _ (.inr ⟨_, rfl⟩)))]
    rw [split_join h0 l p n (by simp only [List.length_cons] at hn; omega) fun x' hx => h x' (List.mem_cons_of_mem _ hx)]
  | _ :: _, _, 0, hn, _ => by omega
theorem len_joinY {y : Cs} (hy : 1 ≤ y.length) : ∀ l : List Cs, l.length ≤ ((l.map fun p => y ++ p).flatten).length
  | [] => Nat.zero_le _
  | p :: l => by
    have := len_joinY hy l
    simp only [List.map_cons, List.flatten_cons, List.length_append, List.length_cons]
    omega
theorem parts_join {y : Cs} {s0 : Nat} (h0 : y.head? = some s0) {l : List Cs} (hl : l ≠ []) (h : ∀ x' ∈ l, ∀ r, (r = [] ∨ ∃ r', r = y ++ r') → NoC y s0 x' r) : partsC y (joinC y l) = l := by
  cases l with
  | nil => exact absurd rfl hl
  | cons x l =>
    refine split_join h0 l x _ ?_ h
    have hy : 1 ≤ y.length := by
      cases y with
      | nil => cases h0
      | cons _ _ => exact Nat.succ_pos _
    have := len_joinY hy l
    show l.length < (x ++ (l.map fun p => y ++ p).flatten).length + 1
    rw [List.length_append]
    omega
theorem parts_one {y x : Cs} {s0 : Nat} (h0 : y.head? = some s0) (h : NoC y s0 x []) : partsC y x = [x] := split1 (cutC_no h0 x fun a u e => by have := h a u e; rwa [List.append_nil] at this)
theorem parts_two {y a b : Cs} {s0 : Nat} (h0 : y.head? = some s0) (ha : NoC y s0 a (y ++ b)) (hb : NoC y s0 b []) : partsC y (a ++ (y ++ b)) = [a, b] := by
  unfold partsC
  rw [split2 (cutC_at h0 a ha)]
  rw [split1 (cutC_no h0 b fun a u e => by have := hb a u e; rwa [List.append_nil] at this)]
/-- the first part, and that there are more -/
theorem parts_head {y a b : Cs} {s0 : Nat} (h0 : y.head? = some s0) (ha : NoC y s0 a (y ++ b)) : (partsC y (a ++ (y ++ b))).headD [] = a := by
  unfold partsC
  rw [split2 (cutC_at h0 a ha)]
  rfl
/-! ### which signs stand in a text -/
theorem not_low {l : Cs} {c : Nat} (h : l.all lowC = true) (hc : lowC c = false) : c ∉ l := fun m => by
  have := List.all_eq_true.mp h c m
  rw [hc] at this
  cases this
theorem name_not {d : PyData} {c : Nat} (h : namD d = true) (hc : lowC c = false) : c ∉ cs (sv d) := by
  obtain ⟨z, rfl, hz, _⟩ := namE h
  exact not_low (val_cs hz).1 hc
theorem dot_not {a b : PyData} {c : Nat} (ha : nnD a = true) (hb : namD b = true) (hc : lowC c = false) (h46 : c ≠ 46) : c ∉ cs (dotT a b) := by
  rcases nnE ha with rfl | ha
  · exact name_not hb hc
  · have h1 := name_not ha hc
    have h2 := name_not hb hc
    obtain ⟨y, rfl, _⟩ := namE ha
    show c ∉ cs (y ++ ("." : Str) ++ sv b)
    rw [cs_cat, cs_cat]
    intro m
    rcases List.mem_append.mp m with m | m
    · rcases List.mem_append.mp m with m | m
      · exact h1 m
      · have e : cs ("." : Str) = [46] := by decide +kernel
        rw [e] at m
        exact h46 (List.mem_singleton.mp m)
    · exact h2 m
theorem cell_in {a b : PyData} (ha : nnD a = true) (hb : namD b = true) : cellIn (cs (dotT a b)) = .tuple [a, b] := by
  have h2 := name_not (c := 46) hb (by decide +kernel)
  obtain ⟨z, rfl, hz⟩ := namE hb
  have h0 : (cs ("." : Str)).head? = some 46 := by decide +kernel
  rcases nnE ha with rfl | ha
  · unfold cellIn
    have e : partsC (cs ".") (cs (dotT .none (.str z))) = [cs z] := parts_one h0 (noC_mem h2)
    rw [e]
    show PyData.tuple [.none, strD (cs z)] = _
    rw [strD_cs]
  · have h1 := name_not (c := 46) ha (by decide +kernel)
    obtain ⟨y, rfl, _⟩ := namE ha
    unfold cellIn
    have e : cs (dotT (.str y) (.str z)) = cs y ++ (cs ("." : Str) ++ cs z) := by
      show cs (y ++ ("." : Str) ++ z) = _
      rw [cs_cat, cs_cat, List.append_assoc]
    rw [e, parts_two h0 (noC_mem (x := cs y) h1) (noC_mem (x := cs z) h2)]
    show PyData.tuple [strD (cs y), strD (cs z)] = _
    rw [strD_cs, strD_cs]
/-! ### what follows blanks -/
def BkS (P : Cs → Prop) (l r : Cs) : Prop := ∀ a u, l = a ++ 32 :: u → P (u ++ r)
section
variable {P : Cs → Prop}
theorem sp_app {l1 l2 r : Cs} (h1 : BkS P l1 (l2 ++ r)) (h2 : BkS P l2 r) : BkS P (l1 ++ l2) r := fun a u e => by
  rcases List.append_eq_append_iff.mp e with ⟨m, e1, e2⟩ | ⟨m, e1, e2⟩
  · exact h2 m u e2
  · cases m with
    | nil =>
      rw [List.nil_append] at e2
      exact h2 [] u e2.symm
    | cons c m =>
      injection e2 with e3 e4
      subst e3
      have := h1 a m e1
      rw [← List.append_assoc] at this
      rw [e4]
      exact this
theorem sp_none {l r : Cs} (h : 32 ∉ l) : BkS P l r := fun a u e => absurd (by rw [e]; simp) h
theorem sp_cons {l r : Cs} (h : P (l ++ r)) (h2 : BkS P l r) : BkS P (32 :: l) r := fun a u e => by
  cases a with
  | nil => injection e with _ e; rw [← e]; exact h
  | cons c a => injection e with _ e; exact h2 a u e
theorem sp_join {sep : Cs} (hsep : ∀ t, P t → BkS P sep t) (hst : ∀ t, Stop (sep ++ t)) : ∀ l : List Cs, (∀ x ∈ l, (∀ r, Stop r → BkS P x r) ∧ ∀ r, Stop r → P (x ++ r)) → ∀ r, Stop r → BkS P (joinC sep l) r := by
  have key : ∀ l : List Cs, (∀ x ∈ l, (∀ r, Stop r → BkS P x r) ∧ ∀ r, Stop r → P (x ++ r)) → ∀ r, Stop r → BkS P ((l.map fun p => sep ++ p).flatten) r ∧ Stop ((l.map fun p => sep ++ p).flatten ++ r) := by
    intro l
    induction l with
    | nil => exact fun _ r hr => ⟨sp_none (by simp), hr⟩
    | cons p l ih =>
      intro h r hr
      obtain ⟨i1, i2⟩ := ih (fun x hx => h x (List.mem_cons_of_mem _ hx)) r hr
      obtain ⟨p1, p2⟩ := h p List.mem_cons_self
      have e : ((p :: l).map fun p => sep ++ p).flatten = sep ++ (p ++ (l.map fun p => sep ++ p).flatten) := by
        simp only [List.map_cons, List.flatten_cons, List.append_assoc]
      rw [e]
      refine ⟨sp_app (hsep _ ?_) (sp_app (p1 _ i2) i1), by rw [List.append_assoc]; exact hst _⟩
      rw [List.append_assoc]
      exact p2 _ i2
  intro l
  cases l with
  | nil => exact fun _ _ _ => sp_none (by simp [joinC])
  | cons x l =>
    intro h r hr
    obtain ⟨i1, i2⟩ := key l (fun x hx => h x (List.mem_cons_of_mem _ hx)) r hr
    exact sp_app ((h x List.mem_cons_self).1 _ i2) i1
end
/-- a quote, a name, or one of some beginnings -/
def Fo (e : List Cs) (t : Cs) : Prop := t.head? = some 39 ∨ (∃ z r, namD (.str z) = true ∧ Stop r ∧ t = cs z ++ r) ∨ ∃ y ∈ e, ∃ r, t = y ++ r
theorem fo_noR {e : List Cs} {y w' t : Cs} {c : Nat} (hy : mkS y ∈ resv) (hyl : y.all lowC = true) (hc : lowC c = false) (h1 : 1 ≤ y.length) (he : ∀ y' ∈ e, ∀ r, (y ++ c :: w').isPrefixOf (y' ++ r) = false) (h : Fo e t) : (y ++ c :: w').isPrefixOf t = false := by
  rcases h with h | ⟨z, r, hz, hr, rfl⟩ | ⟨y', hm, r, rfl⟩
  · cases t with
    | nil => cases h
    | cons d t =>
      cases h
      cases y with
      | nil => cases h1
      | cons d y =>
        rw [List.all_cons, Bool.and_eq_true] at hyl
        show (d == 39 && _) = false
        rw [show (d == 39) = false from beq_false_of_ne fun q => by rw [q] at hyl; exact absurd hyl.1 (by decide +kernel)]
        rfl
  · apply Bool.eq_false_iff.mpr
    intro q
    rw [List.isPrefixOf_iff_prefix] at q
    obtain ⟨s, hs⟩ := q
    obtain ⟨_, ez, hv, hn⟩ := namE hz
    cases ez
    have e1 : cs z ++ r = y ++ (c :: (w' ++ s)) := by rw [← hs, List.append_assoc]; rfl
    have e2 := word_eq (val_cs hv).1 hyl hr (fun d e => by cases e; exact hc) e1
    exact hn (by rw [← mkS_cs z, e2]; exact hy)
  · exact he y' hm r
theorem fo_noS {e : List Cs} {w' t : Cs} {c : Nat} (hc : lowC c = false) (h39 : c ≠ 39) (he : ∀ y' ∈ e, ∀ r, (c :: w').isPrefixOf (y' ++ r) = false) (h : Fo e t) : (c :: w').isPrefixOf t = false := by
  rcases h with h | ⟨z, r, hz, hr, rfl⟩ | ⟨y', hm, r, rfl⟩
  · cases t with
    | nil => cases h
    | cons d t =>
      cases h
      show (c == 39 && _) = false
      rw [show (c == 39) = false from beq_false_of_ne h39]
      rfl
  · obtain ⟨_, ez, hv, _⟩ := namE hz
    cases ez
    obtain ⟨d, t, e, hd⟩ := name_head hv
    rw [e]
    show (c == d && _) = false
    rw [show (c == d) = false from beq_false_of_ne fun q => by rw [q, hd] at hc; cases hc]
    rfl
  · exact he y' hm r
theorem noC_sp {w x r : Cs} {P : Cs → Prop} (h : BkS P x r) (hP : ∀ t, P t → w.isPrefixOf t = false) : NoC (32 :: w) 32 x r := fun a u e => by
  show (32 == 32 && w.isPrefixOf (u ++ r)) = false
  rw [hP _ (h a u e)]
  rfl
theorem fo_dot {e : List Cs} {a b : PyData} {r : Cs} (ha : nnD a = true) (hb : namD b = true) (hr : Stop r) : Fo e (cs (dotT a b) ++ r) := by
  rcases nnE ha with rfl | ha
  · obtain ⟨z, rfl, _⟩ := namE hb
    exact .inr (.inl ⟨z, r, hb, hr, rfl⟩)
  · obtain ⟨y, rfl, _⟩ := namE ha
    exact .inr (.inl ⟨y, cs ("." : Str) ++ cs (sv b) ++ r, ha, fun c e => by cases e; decide +kernel, by
      show cs (y ++ ("." : Str) ++ sv b) ++ r = _
      rw [cs_cat, cs_cat]; simp only [List.append_assoc]⟩)

theorem quo_cs (z : Str) : cs (quoT z) = 39 :: (cs z ++ [39]) := by
  show cs (("'" : Str) ++ z ++ ("'" : Str)) = _
  rw [cs_cat, cs_cat, List.append_assoc]
  rfl
theorem fo_term {e : List Cs} : ∀ {k : Nat} {d : PyData} {r : Cs}, (colD d || valD d || callD k d) = true → Stop r → Fo e (cs (termT k d) ++ r) := fun {k d r} h hr => by
  rw [Bool.or_eq_true, Bool.or_eq_true] at h
  rcases h with (h | h) | h
  · obtain ⟨a, b, rfl, ha, hb⟩ := colE h
    have e : termT k (.tuple [a, b]) = dotT a b := by cases k <;> rfl
    rw [e]
    exact fo_dot ha hb hr
  · obtain ⟨z, rfl, hz⟩ := valE h
    have e : termT k (.str z) = quoT z := by cases k <;> rfl
    rw [e, quo_cs]
    exact .inl rfl
  · obtain ⟨j, s, n, ts, rfl, rfl, hs, hn, l1, l2, hts⟩ := callE h
    have e : cs (termT (j + 1) (.tuple [.str "call", s, n, .tuple ts])) ++ r = cs (dotT s n) ++ (cs ("(" : Str) ++ (cs (Txt.join (", " : Str) (ts.map (termT j))) ++ (cs (")" : Str) ++ r))) := by
      show cs (dotT s n ++ ("(" : Str) ++ Txt.join (", " : Str) (ts.map (termT j)) ++ (")" : Str)) ++ r = _
      rw [cs_cat, cs_cat, cs_cat, List.append_assoc, List.append_assoc, List.append_assoc]
    rw [e]
    exact fo_dot hs hn fun c e => by cases e; decide +kernel
theorem call_cs (j : Nat) (s n : PyData) (ts : List PyData) : cs (termT (j + 1) (.tuple [.str "call", s, n, .tuple ts])) = cs (dotT s n) ++ (cs ("(" : Str) ++ (joinC (cs ", ") (ts.map fun t => cs (termT j t)) ++ cs (")" : Str))) := by
  show cs (dotT s n ++ ("(" : Str) ++ Txt.join (", " : Str) (ts.map (termT j)) ++ (")" : Str)) = _
  rw [cs_cat, cs_cat, cs_cat, cs_joinC, List.map_map, List.append_assoc, List.append_assoc]
  rfl
theorem val_not {z : Str} {c : Nat} (h : valS z = true) (hc : lowC c = false) (h39 : c ≠ 39) : c ∉ cs (quoT z) := by
  rw [quo_cs]
  intro m
  rcases List.mem_cons.mp m with m | m
  · exact h39 m
  · rcases List.mem_append.mp m with m | m
    · exact not_low (val_cs h).1 hc m
    · exact h39 (List.mem_singleton.mp m)
theorem comma_sp {P : Cs → Prop} : ∀ t, P t → BkS P (cs ", ") t := fun t h => by
  have e : cs (", " : Str) = [44] ++ (32 :: []) := by decide +kernel
  rw [e]
  exact sp_app (sp_none (by decide)) (sp_cons h (sp_none (by decide)))
theorem comma_stop : ∀ t, Stop (cs (", " : Str) ++ t) := fun t c e => by cases e; decide +kernel
theorem sp_term {e : List Cs} : ∀ (k : Nat) {d : PyData}, (colD d || valD d || callD k d) = true → ∀ r, BkS (Fo e) (cs (termT k d)) r := fun k => by
  induction k with
  | zero =>
    intro d h r
    rw [Bool.or_eq_true, Bool.or_eq_true] at h
    rcases h with (h | h) | h
    · obtain ⟨a, b, rfl, ha, hb⟩ := colE h
      exact sp_none (dot_not ha hb (by decide +kernel) (by decide))
    · obtain ⟨z, rfl, hz⟩ := valE h
      exact sp_none (val_not hz (by decide +kernel) (by decide))
    · cases h
  | succ j ih =>
    intro d h r
    rw [Bool.or_eq_true, Bool.or_eq_true] at h
    rcases h with (h | h) | h
    · obtain ⟨a, b, rfl, ha, hb⟩ := colE h
      exact sp_none (dot_not ha hb (by decide +kernel) (by decide))
    · obtain ⟨z, rfl, hz⟩ := valE h
      exact sp_none (val_not hz (by decide +kernel) (by decide))
    · obtain ⟨j', s, n, ts, ej, rfl, hs, hn, l1, l2, hts⟩ := callE h
      cases ej
      rw [call_cs]
      refine sp_app (sp_none (dot_not hs hn (by decide +kernel) (by decide))) (sp_app (sp_none (by decide +kernel)) (sp_app (sp_join comma_sp comma_stop _ (fun x hx => ?_) _ (fun c e => by cases e; decide +kernel)) (sp_none (by decide +kernel))))
      obtain ⟨t, ht, rfl⟩ := List.mem_map.mp hx
      exact ⟨fun r _ => ih (hts t ht) r, fun r hr => fo_term (hts t ht) hr⟩
/-! ### listed -/
/-- within parentheses all is kept -/
def Dp (l : Cs) : Prop := ∀ (done : List Cs) (last : Cs) (d : Int), 1 ≤ d → l.foldl lsStep (done, last, d) = (done, last ++ l, d)
/-- outside of them too -/
def L0 (l : Cs) : Prop := ∀ (done : List Cs) (last : Cs), l.foldl lsStep (done, last, 0) = (done, last ++ l, 0)
theorem dp_app {a b : Cs} (ha : Dp a) (hb : Dp b) : Dp (a ++ b) := fun done last d h => by
  rw [List.foldl_append, ha done last d h, hb done _ d h, List.append_assoc]
theorem dp_plain : ∀ {l : Cs}, 40 ∉ l → 41 ∉ l → Dp l
  | [], _, _ => fun done last d h => by rw [List.append_nil]; rfl
  | c :: l, h1, h2 => fun done last d h => by
    have n1 : c ≠ 40 := fun e => h1 (by rw [e]; exact List.mem_cons_self)
    have n2 : c ≠ 41 := fun e => h2 (by rw [e]; exact List.mem_cons_self)
    have e : lsStep (done, last, d) c = (done, last ++ [c], d) := by
      unfold lsStep
      rw [if_neg n1, if_neg n2]
      rw [if_neg (fun q => by have := q.2.1; simp only at this; omega)]
      simp
    rw [List.foldl_cons, e, dp_plain (l := l) (fun m => h1 (List.mem_cons_of_mem _ m)) (fun m => h2 (List.mem_cons_of_mem _ m)) done _ d h, List.append_assoc]
    rfl
theorem l0_app {a b : Cs} (ha : L0 a) (hb : L0 b) : L0 (a ++ b) := fun done last => by
  rw [List.foldl_append, ha done last, hb done _, List.append_assoc]
theorem l0_plain : ∀ {l : Cs}, 40 ∉ l → 41 ∉ l → 32 ∉ l → L0 l
  | [], _, _, _ => fun done last => by rw [List.append_nil]; rfl
  | c :: l, h1, h2, h3 => fun done last => by
    have n1 : c ≠ 40 := fun e => h1 (by rw [e]; exact List.mem_cons_self)
    have n2 : c ≠ 41 := fun e => h2 (by rw [e]; exact List.mem_cons_self)
    have n3 : c ≠ 32 := fun e => h3 (by rw [e]; exact List.mem_cons_self)
    have e : lsStep (done, last, 0) c = (done, last ++ [c], 0) := by
      unfold lsStep
      rw [if_neg n1, if_neg n2]
      rw [if_neg (fun q => n3 q.1)]
      simp
    rw [List.foldl_cons, e, l0_plain (l := l) (fun m => h1 (List.mem_cons_of_mem _ m)) (fun m => h2 (List.mem_cons_of_mem _ m)) (fun m => h3 (List.mem_cons_of_mem _ m)) done _, List.append_assoc]
    rfl
theorem ls_open (done : List Cs) (last : Cs) (d : Int) : lsStep (done, last, d) 40 = (done, last ++ [40], d + 1) := by
  unfold lsStep
  rw [if_neg (fun q => absurd q.1 (by decide))]
  simp
theorem ls_close (done : List Cs) (last : Cs) (d : Int) : lsStep (done, last, d) 41 = (done, last ++ [41], d - 1) := by
  unfold lsStep
  rw [if_neg (fun q => absurd q.1 (by decide))]
  simp
theorem dp_par {a : Cs} (ha : Dp a) : Dp (40 :: (a ++ [41])) := fun done last d h => by
  rw [List.foldl_cons, ls_open, List.foldl_append, ha done _ (d + 1) (by omega), List.foldl_cons, ls_close, List.foldl_nil]
  simp
theorem l0_par {a : Cs} (ha : Dp a) : L0 (40 :: (a ++ [41])) := fun done last => by
  rw [List.foldl_cons, ls_open, List.foldl_append, ha done _ (0 + 1) (by omega), List.foldl_cons, ls_close, List.foldl_nil]
  simp
theorem dp_join : ∀ {l : List Cs}, (∀ x ∈ l, Dp x) → Dp (joinC (cs ", ") l) := fun {l} h => by
  have key : ∀ l : List Cs, (∀ x ∈ l, Dp x) → Dp ((l.map fun p => cs (", " : Str) ++ p).flatten) := by
    intro l
    induction l with
    | nil => exact fun _ => dp_plain (by simp) (by simp)
    | cons p l ih =>
      intro h
      have e : ((p :: l).map fun p => cs (", " : Str) ++ p).flatten = cs (", " : Str) ++ (p ++ (l.map fun p => cs (", " : Str) ++ p).flatten) := by
        simp only [List.map_cons, List.flatten_cons, List.append_assoc]
      rw [e]
      exact dp_app (dp_plain (by decide +kernel) (by decide +kernel)) (dp_app (h p List.mem_cons_self) (ih fun x hx => h x (List.mem_cons_of_mem _ hx)))
  cases l with
  | nil => exact dp_plain (by simp [joinC]) (by simp [joinC])
  | cons x l => exact dp_app (h x List.mem_cons_self) (key l fun x hx => h x (List.mem_cons_of_mem _ hx))
theorem par_cs (a : Cs) : cs ("(" : Str) ++ (a ++ cs (")" : Str)) = 40 :: (a ++ [41]) := rfl
theorem dp_term : ∀ (k : Nat) {d : PyData}, (colD d || valD d || callD k d) = true → Dp (cs (termT k d)) := fun k => by
  have base : ∀ {k : Nat} {d : PyData}, (colD d || valD d) = true → Dp (cs (termT k d)) := fun {k d} h => by
    rw [Bool.or_eq_true] at h
    rcases h with h | h
    · obtain ⟨a, b, rfl, ha, hb⟩ := colE h
      have e : termT k (.tuple [a, b]) = dotT a b := by cases k <;> rfl
      rw [e]
      exact dp_plain (dot_not ha hb (by decide +kernel) (by decide)) (dot_not ha hb (by decide +kernel) (by decide))
    · obtain ⟨z, rfl, hz⟩ := valE h
      have e : termT k (.str z) = quoT z := by cases k <;> rfl
      rw [e]
      exact dp_plain (val_not hz (by decide +kernel) (by decide)) (val_not hz (by decide +kernel) (by decide))
  induction k with
  | zero =>
    intro d h
    rw [Bool.or_eq_true] at h
    rcases h with h | h
    · exact base h
    · cases h
  | succ j ih =>
    intro d h
    rw [Bool.or_eq_true] at h
    rcases h with h | h
    · exact base h
    · obtain ⟨j', s, n, ts, ej, rfl, hs, hn, l1, l2, hts⟩ := callE h
      cases ej
      rw [call_cs, par_cs]
      refine dp_app (dp_plain (dot_not hs hn (by decide +kernel) (by decide)) (dot_not hs hn (by decide +kernel) (by decide))) (dp_par (dp_join fun x hx => ?_))
      obtain ⟨t, ht, rfl⟩ := List.mem_map.mp hx
      exact ih (hts t ht)
theorem l0_term (k : Nat) {d : PyData} (h : (colD d || valD d || callD k d) = true) : L0 (cs (termT k d)) := by
  rw [Bool.or_eq_true, Bool.or_eq_true] at h
  rcases h with (h | h) | h
  · obtain ⟨a, b, rfl, ha, hb⟩ := colE h
    have e : termT k (.tuple [a, b]) = dotT a b := by cases k <;> rfl
    rw [e]
    exact l0_plain (dot_not ha hb (by decide +kernel) (by decide)) (dot_not ha hb (by decide +kernel) (by decide)) (dot_not ha hb (by decide +kernel) (by decide))
  · obtain ⟨z, rfl, hz⟩ := valE h
    have e : termT k (.str z) = quoT z := by cases k <;> rfl
    rw [e]
    exact l0_plain (val_not hz (by decide +kernel) (by decide)) (val_not hz (by decide +kernel) (by decide)) (val_not hz (by decide +kernel) (by decide))
  · obtain ⟨j, s, n, ts, rfl, rfl, hs, hn, l1, l2, hts⟩ := callE h
    rw [call_cs, par_cs]
    refine l0_app (l0_plain (dot_not hs hn (by decide +kernel) (by decide)) (dot_not hs hn (by decide +kernel) (by decide)) (dot_not hs hn (by decide +kernel) (by decide))) (l0_par (dp_join fun x hx => ?_))
    obtain ⟨t, ht, rfl⟩ := List.mem_map.mp hx
    exact dp_term j (hts t ht)
/-- a part of a list: kept where a part begins -/
def LN (x : Cs) : Prop := ∀ done : List Cs, x.foldl lsStep (done, [], 0) = (done, x, 0)
theorem L0.n {x : Cs} (h : L0 x) : LN x := fun done => h done []
theorem ls_sep (done : List Cs) (x : Cs) : (cs (", " : Str)).foldl lsStep (done, x, 0) = (done ++ [x], [], 0) := by
  have e : cs (", " : Str) = [44, 32] := by decide +kernel
  rw [e, List.foldl_cons, List.foldl_cons, List.foldl_nil]
  have e1 : lsStep (done, x, 0) 44 = (done, x ++ [44], 0) := by
    unfold lsStep
    rw [if_neg (fun q => absurd q.1 (by decide))]
    simp
  rw [e1]
  unfold lsStep
  rw [if_pos ⟨rfl, by simp, by simp⟩]
  simp
theorem listed_join : ∀ {l : List Cs}, l ≠ [] → (∀ x ∈ l, LN x) → listedC (joinC (cs ", ") l) = l := fun {l} hl h => by
  have key : ∀ (l : List Cs) (done : List Cs) (x : Cs), (∀ x ∈ l, LN x) → outL (((l.map fun p => cs (", " : Str) ++ p).flatten).foldl lsStep (done, x, 0)) = done ++ (x :: l) := by
    intro l
    induction l with
    | nil => exact fun done x _ => rfl
    | cons p l ih =>
      intro done x h
      have e : ((p :: l).map fun p => cs (", " : Str) ++ p).flatten = cs (", " : Str) ++ (p ++ (l.map fun p => cs (", " : Str) ++ p).flatten) := by
        simp only [List.map_cons, List.flatten_cons, List.append_assoc]
      rw [e, List.foldl_append, ls_sep, List.foldl_append, h p List.mem_cons_self (done ++ [x]), ih _ _ fun x hx => h x (List.mem_cons_of_mem _ hx), List.append_assoc]
      rfl
  cases l with
  | nil => exact absurd rfl hl
  | cons x l =>
    unfold listedC
    show outL ((x ++ _).foldl lsStep ([], [], 0)) = _
    rw [List.foldl_append, h x List.mem_cons_self [], key l [] x fun x hx => h x (List.mem_cons_of_mem _ hx)]
    rfl
theorem term_in : ∀ (k : Nat) {d : PyData}, (colD d || valD d || callD k d) = true → termIn (k + 1) (cs (termT k d)) = d := fun k => by
  have base : ∀ {k : Nat} {d : PyData}, (colD d || valD d) = true → termIn (k + 1) (cs (termT k d)) = d := fun {k d} h => by
    rw [Bool.or_eq_true] at h
    rcases h with h | h
    · obtain ⟨a, b, rfl, ha, hb⟩ := colE h
      have e : termT k (.tuple [a, b]) = dotT a b := by cases k <;> rfl
      rw [e]
      have n39 := dot_not (c := 39) ha hb (by decide +kernel) (by decide)
      have n40 := dot_not (c := 40) ha hb (by decide +kernel) (by decide)
      unfold termIn
      rw [if_neg (fun q : (cs (dotT a b)).head? = some 39 => n39 (List.mem_of_mem_head? (Option.mem_def.mpr q))), parts_one (s0 := 40) (by decide +kernel) (noC_mem n40), if_pos (show [cs (dotT a b)].headD [] = cs (dotT a b) from rfl)]
      exact cell_in ha hb
    · obtain ⟨z, rfl, hz⟩ := valE h
      have e : termT k (.str z) = quoT z := by cases k <;> rfl
      rw [e, quo_cs]
      unfold termIn
      rw [if_pos (show (39 :: (cs z ++ [39])).head? = some 39 from rfl)]
      have e2 : sl1 (39 :: (cs z ++ [39])) = cs z := by
        unfold sl1
        rw [show 39 :: (cs z ++ [39]) = (39 :: cs z) ++ [39] from rfl, List.dropLast_concat]
        rfl
      rw [e2, strD_cs]
  induction k with
  | zero =>
    intro d h
    rw [Bool.or_eq_true] at h
    rcases h with h | h
    · exact base h
    · cases h
  | succ j ih =>
    intro d h
    rw [Bool.or_eq_true] at h
    rcases h with h | h
    · exact base h
    · obtain ⟨j2, s, n, ts, ej, rfl, hs, hn, l1, l2, hts⟩ := callE h
      cases ej
      have n39 := dot_not (c := 39) hs hn (by decide +kernel) (by decide)
      have n40 := dot_not (c := 40) hs hn (by decide +kernel) (by decide)
      rw [call_cs]
      generalize hJ : joinC (cs ", ") (ts.map fun t => cs (termT j t)) = J
      have h0 : (cs ("(" : Str)).head? = some 40 := by decide +kernel
      have eh : (partsC (cs "(") (cs (dotT s n) ++ (cs ("(" : Str) ++ (J ++ cs (")" : Str))))).headD [] = cs (dotT s n) := parts_head h0 (noC_mem n40)
      have ne : ∃ c t, cs (dotT s n) = c :: t ∧ c ≠ 39 := by
        cases q : cs (dotT s n) with
        | nil =>
          have := tk_dot (s := "'") (c := 39) (t := []) (r := [39]) (by decide +kernel) (by decide +kernel) hs hn
          rw [q] at this
          exact absurd this (by decide +kernel)
        | cons c t => exact ⟨c, t, rfl, fun e => n39 (by rw [q, e]; exact List.mem_cons_self)⟩
      unfold termIn
      rw [if_neg (fun q => by obtain ⟨c, t, e, hc⟩ := ne; rw [e] at q; exact hc (Option.some.inj q)), eh]
      rw [if_neg (fun q => n40 (by rw [q]; exact List.mem_append_right _ (List.mem_append_left _ (by decide +kernel)))), cell_in hs hn]
      have e2 : (cs (dotT s n) ++ (cs ("(" : Str) ++ (J ++ cs (")" : Str)))).dropLast.drop ((cs (dotT s n)).length + 1) = J := by
        have e3 : cs (dotT s n) ++ (cs ("(" : Str) ++ (J ++ cs (")" : Str))) = ((cs (dotT s n) ++ [40]) ++ J) ++ [41] := by
          rw [par_cs]; simp
        rw [e3, List.dropLast_concat, show (cs (dotT s n)).length + 1 = (cs (dotT s n) ++ [40]).length by simp, List.drop_left]
      rw [e2, ← hJ, listed_join (by intro q; rw [List.map_eq_nil_iff] at q; rw [q] at l1; exact absurd l1 (by decide)) (fun x hx => by
        obtain ⟨t, ht, rfl⟩ := List.mem_map.mp hx
        exact (l0_term j (hts t ht)).n), List.map_map]
      have e4 : ts.map (termIn (j + 1) ∘ fun t => cs (termT j t)) = ts := by
        conv => rhs; rw [← List.map_id ts]
        exact List.map_congr_left fun t ht => ih (hts t ht)
      rw [e4]
      rfl

/-! ### what is told -/
theorem as_cs : cs (" as " : Str) = 32 :: cs ("as " : Str) := by decide +kernel
theorem as_no : ∀ t, Fo [] t → (cs ("as " : Str)).isPrefixOf t = false := fun t h => fo_noR (y := cs "as") (w' := []) (c := 32) (by decide +kernel) (by decide +kernel) (by decide +kernel) (by decide +kernel) (fun _ m => by cases m) h
theorem toldT_as {t n : PyData} (k : Nat) (hn : namD n = true) {l : Cs} (el : l = cs (termT 3 t) ++ (cs (" as " : Str) ++ cs (sv n))) (ht : (colD t || valD t || callD 3 t) = true) : toldIn l = .tuple [.str (if pairD t = true then "column" else "term"), t, n] := by
  obtain ⟨z, rfl, hz, _⟩ := namE hn
  have ep : partsC (cs " as ") l = [cs (termT 3 t), cs z] := by
    rw [el]
    refine parts_two (s0 := 32) (by decide +kernel) ?_ (noC_mem (not_low (val_cs hz).1 (by decide +kernel)))
    rw [as_cs]
    exact noC_sp (sp_term 3 ht _) as_no
  have e2 : ¬ l.drop (l.length - 2) = cs ".*" := fun q => by
    have h1 : l.getLast? = (cs z).getLast? := by
      rw [el, List.getLast?_append, List.getLast?_append]
      cases q2 : (cs z).getLast? with
      | none =>
        rw [List.getLast?_eq_none_iff] at q2
        have := (val_cs hz).2.2
        rw [q2] at this
        exact absurd this (by decide)
      | some c =>
        rw [show cs (sv (PyData.str z)) = cs z from rfl, q2]
        rfl
    have h2 : l.getLast? = some 42 := by
      have h3 : l.take (l.length - 2) ++ l.drop (l.length - 2) = l := List.take_append_drop _ _
      rw [← h3, q, List.getLast?_append, show (cs (".*" : Str)).getLast? = some 42 by decide +kernel]
      rfl
    rw [h1] at h2
    exact not_low (val_cs hz).1 (c := 42) (by decide +kernel) (List.mem_of_getLast? h2)
  unfold toldIn
  rw [if_neg e2, ep]
  have e3 : termIn 4 ([cs (termT 3 t), cs z].headD []) = t := term_in 3 ht
  have e4 : (if 1 < [cs (termT 3 t), cs z].length ∨ pairD t = false then strD ([cs (termT 3 t), cs z].getLastD []) else at' t 1) = .str z := by
    rw [if_pos (Or.inl (show 1 < [cs (termT 3 t), cs z].length from Nat.lt_succ_self 1))]
    exact strD_cs z
  rw [e3, e4]
theorem pair_col {a b : PyData} : pairD (.tuple [a, b]) = true := rfl
theorem pair_val {z : Str} : pairD (.str z) = false := rfl
theorem pair_call {k : Nat} {t : PyData} (h : callD k t = true) : pairD t = false := by
  obtain ⟨j, s, n, ts, rfl, rfl, _⟩ := callE h
  rfl
theorem told_in {d : PyData} (h : toldD d = true) : toldIn (cs (toldT d)) = d := by
  rcases toldE h with ⟨n, rfl, hn⟩ | ⟨c, n, rfl, hc, hn⟩ | ⟨t, n, rfl, ht, hn⟩
  · obtain ⟨z, rfl, hz, _⟩ := namE hn
    have e : cs (toldT (.tuple [.str "star", .str z])) = cs z ++ [46, 42] := by
      show cs (z ++ (".*" : Str)) = _
      rw [cs_cat]
      rfl
    rw [e]
    unfold toldIn
    rw [if_pos (by
      rw [List.length_append, show (cs z).length + [46, 42].length - 2 = (cs z).length from rfl, List.drop_left]
      decide +kernel)]
    have e2 : (cs z ++ [46, 42]).dropLast.dropLast = cs z := by
      rw [show cs z ++ [46, 42] = (cs z ++ [46]) ++ [42] by simp, List.dropLast_concat, List.dropLast_concat]
    rw [e2, strD_cs]
  · obtain ⟨a, b, rfl, ha, hb⟩ := colE hc
    by_cases q : sv b = sv n
    · obtain ⟨y, rfl, _⟩ := namE hb
      obtain ⟨z, rfl, hz, _⟩ := namE hn
      have q' : y = z := q
      subst q'
      have e : toldT (.tuple [.str "column", .tuple [a, .str y], .str y]) = dotT a (.str y) := if_pos rfl
      rw [e]
      have n32 := dot_not (c := 32) ha hb (by decide +kernel) (by decide)
      have n42 := dot_not (c := 42) ha hb (by decide +kernel) (by decide)
      unfold toldIn
      rw [if_neg (fun q => n42 (List.mem_of_mem_drop (by rw [q]; decide +kernel))), parts_one (s0 := 32) (by decide +kernel) (noC_mem n32)]
      have e3 : termIn 4 ([cs (dotT a (.str y))].headD []) = .tuple [a, .str y] := term_in 3 (d := .tuple [a, .str y]) (by rw [hc]; rfl)
      have e4 : (if 1 < [cs (dotT a (.str y))].length ∨ pairD (.tuple [a, .str y]) = false then strD ([cs (dotT a (.str y))].getLastD []) else at' (.tuple [a, .str y]) 1) = .str y := if_neg (fun q => by rcases q with q | q; exact absurd q (Nat.lt_irrefl 1); rw [pair_col] at q; cases q)
      rw [e3, e4]
      rfl
    · have e : toldT (.tuple [.str "column", .tuple [a, b], n]) = dotT a b ++ (" as " : Str) ++ sv n := if_neg q
      rw [e, toldT_as (t := .tuple [a, b]) 0 hn (by rw [cs_cat, cs_cat, List.append_assoc]; rfl) (by rw [hc]; rfl)]
      rfl
  · have hp : pairD t = false := by
      rcases ht with ht | ht
      · obtain ⟨z, rfl, _⟩ := valE ht
        rfl
      · exact pair_call ht
    have e : toldT (.tuple [.str "term", t, n]) = termT 3 t ++ (" as " : Str) ++ sv n := by
      rcases ht with ht | ht
      · obtain ⟨z, rfl, _⟩ := valE ht
        rfl
      · obtain ⟨j, s, m, ts, _, rfl, _⟩ := callE ht
        rfl
    rw [e, toldT_as (t := t) 0 hn (by rw [cs_cat, cs_cat, List.append_assoc]) (by rcases ht with ht | ht <;> rw [ht] <;> simp), hp]
    rfl

/-! ### conditions -/
theorem in_cs : cs (" in (" : Str) = 32 :: cs ("in (" : Str) := by decide +kernel
theorem eq_cs : cs (" = " : Str) = 32 :: cs ("= " : Str) := by decide +kernel
theorem in_no {e : List Cs} (he : ∀ y' ∈ e, ∀ r, (cs "in" ++ 32 :: [40]).isPrefixOf (y' ++ r) = false) : ∀ t, Fo e t → (cs ("in (" : Str)).isPrefixOf t = false := fun t h => fo_noR (y := cs "in") (w' := [40]) (c := 32) (by decide +kernel) (by decide +kernel) (by decide +kernel) (by decide +kernel) he h
theorem vals_cs (ds : List PyData) : cs (valsT ds) = 40 :: (joinC (cs ", ") (ds.map fun d => cs (quoT (sv d))) ++ [41]) := by
  show cs (("(" : Str) ++ Txt.join (", " : Str) (ds.map fun d => quoT (sv d)) ++ (")" : Str)) = _
  rw [cs_cat, cs_cat, cs_joinC, List.map_map, List.append_assoc]
  rfl
theorem quo_in (z : Str) : strD (sl1 (cs (quoT z))) = .str z := by
  rw [quo_cs]
  unfold sl1
  rw [show 39 :: (cs z ++ [39]) = (39 :: cs z) ++ [39] from rfl, List.dropLast_concat]
  exact strD_cs z
theorem vals_parts {ds : List PyData} (h1 : 1 ≤ ds.length) (h : ∀ x ∈ ds, valD x = true) : (partsC (cs ", ") (joinC (cs ", ") (ds.map fun d => cs (quoT (sv d))))).map (fun v => strD (sl1 v)) = ds := by
  rw [parts_join (s0 := 44) (by decide +kernel) (by intro q; rw [List.map_eq_nil_iff] at q; rw [q] at h1; exact absurd h1 (by decide)) (fun x hx r _ => by
    obtain ⟨d, hd, rfl⟩ := List.mem_map.mp hx
    obtain ⟨z, rfl, hz⟩ := valE (h d hd)
    exact noC_mem (val_not hz (by decide +kernel) (by decide))), List.map_map]
  conv => rhs; rw [← List.map_id ds]
  exact List.map_congr_left fun d hd => by
    obtain ⟨z, rfl, hz⟩ := valE (h d hd)
    exact quo_in z
/-- blanks within a list of values stand ahead of quotes -/
theorem sp_vals {e : List Cs} {ds : List PyData} (h : ∀ x ∈ ds, valD x = true) {r : Cs} (hr : Stop r) : BkS (Fo e) (joinC (cs ", ") (ds.map fun d => cs (quoT (sv d)))) r := by
  refine sp_join comma_sp comma_stop _ (fun x hx => ?_) r hr
  obtain ⟨d, hd, rfl⟩ := List.mem_map.mp hx
  obtain ⟨z, rfl, hz⟩ := valE (h d hd)
  exact ⟨fun r _ => sp_none (val_not hz (by decide +kernel) (by decide)), fun r _ => .inl (by rw [show cs (quoT (sv (.str z))) = cs (quoT z) from rfl, quo_cs]; rfl)⟩
theorem eqc_cs (a b a' b' : PyData) : cs (condT (.tuple [.str "equal", .tuple [a, b], .tuple [a', b']])) = cs (dotT a b) ++ (cs (" = " : Str) ++ cs (dotT a' b')) := by
  have e : condT (.tuple [.str "equal", .tuple [a, b], .tuple [a', b']]) = dotT a b ++ (" = " : Str) ++ dotT a' b' := rfl
  rw [e, cs_cat, cs_cat, List.append_assoc]
theorem inc_cs (a b : PyData) (ds : List PyData) : cs (condT (.tuple [.str "in", .tuple [a, b], .tuple ds])) = cs (dotT a b) ++ (cs (" in (" : Str) ++ (joinC (cs ", ") (ds.map fun d => cs (quoT (sv d))) ++ [41])) := by
  have e : condT (.tuple [.str "in", .tuple [a, b], .tuple ds]) = dotT a b ++ (" in " : Str) ++ valsT ds := by
    show (if ("in" : Str) = "equal" then cellT (.tuple [a, b]) ++ (" = " : Str) ++ cellT (.tuple ds) else cellT (.tuple [a, b]) ++ (" in " : Str) ++ valsT ds) = _
    rw [if_neg (by decide +kernel)]
    rfl
  rw [e, cs_cat, cs_cat, vals_cs, List.append_assoc]
  rfl
theorem ask_in {d : PyData} (h : condD d = true) : askIn (cs (condT d)) = d := by
  rcases condE h with ⟨a, b, rfl, ha, hb⟩ | ⟨a, ds, rfl, ha, hl, hv⟩
  · obtain ⟨a1, b1, rfl, ha1, hb1⟩ := colE ha
    obtain ⟨a2, b2, rfl, ha2, hb2⟩ := colE hb
    rw [eqc_cs]
    have n1 := dot_not (c := 32) ha1 hb1 (by decide +kernel) (by decide)
    have n2 := dot_not (c := 32) ha2 hb2 (by decide +kernel) (by decide)
    have e1 : partsC (cs " in (") (cs (dotT a1 b1) ++ (cs (" = " : Str) ++ cs (dotT a2 b2))) = [cs (dotT a1 b1) ++ (cs (" = " : Str) ++ cs (dotT a2 b2))] := by
      refine parts_one (s0 := 32) (by decide +kernel) ?_
      rw [in_cs]
      refine noC_sp (P := Fo [cs "= "]) (sp_app (sp_none n1) (sp_app ?_ (sp_none n2))) (in_no fun y hy r => by rw [List.mem_singleton.mp hy]; rfl)
      rw [eq_cs]
      refine sp_cons (.inr (.inr ⟨_, List.mem_singleton_self _, _, rfl⟩)) ?_
      have e : cs ("= " : Str) = [61] ++ (32 :: []) := by decide +kernel
      rw [e]
      refine sp_app (sp_none (by decide)) (sp_cons ?_ (sp_none (by decide)))
      exact fo_dot ha2 hb2 (fun c e => by cases e)
    have e2 : partsC (cs " = ") (cs (dotT a1 b1) ++ (cs (" = " : Str) ++ cs (dotT a2 b2))) = [cs (dotT a1 b1), cs (dotT a2 b2)] := parts_two (s0 := 32) (by decide +kernel) (noC_mem n1) (noC_mem n2)
    unfold askIn
    rw [e1, e2]
    show PyData.tuple [.str "equal", cellIn (cs (dotT a1 b1)), cellIn (cs (dotT a2 b2))] = _
    rw [cell_in ha1 hb1, cell_in ha2 hb2]
  · obtain ⟨a1, b1, rfl, ha1, hb1⟩ := colE ha
    rw [inc_cs]
    have n1 := dot_not (c := 32) ha1 hb1 (by decide +kernel) (by decide)
    have e1 : partsC (cs " in (") (cs (dotT a1 b1) ++ (cs (" in (" : Str) ++ (joinC (cs ", ") (ds.map fun d => cs (quoT (sv d))) ++ [41]))) = [cs (dotT a1 b1), joinC (cs ", ") (ds.map fun d => cs (quoT (sv d))) ++ [41]] := by
      refine parts_two (s0 := 32) (by decide +kernel) (noC_mem n1) ?_
      rw [in_cs]
      exact noC_sp (P := Fo []) (sp_app (sp_vals hv.2 (fun c e => by cases e; decide +kernel)) (sp_none (by decide))) (in_no fun _ m => by cases m)
    unfold askIn
    rw [e1]
    show PyData.tuple [.str "in", cellIn (cs (dotT a1 b1)), .tuple ((partsC (cs ", ") (joinC (cs ", ") (ds.map fun d => cs (quoT (sv d))) ++ [41]).dropLast).map fun v => strD (sl1 v))] = _
    rw [cell_in ha1 hb1, List.dropLast_concat, vals_parts hl hv.2]
theorem origin_in {d : PyData} (h : srcD d = true) : originIn (cs (srcT d)) = d := by
  obtain ⟨s, n, l, rfl, hs, hn, hl⟩ := srcE h
  have n1 := dot_not (c := 32) hs hn (by decide +kernel) (by decide)
  obtain ⟨y, rfl, _⟩ := namE hn
  obtain ⟨z, rfl, hz, _⟩ := namE hl
  by_cases q : z = y
  · subst q
    have e : srcT (.tuple [s, .str z, .str z]) = dotT s (.str z) := if_pos rfl
    rw [e]
    unfold originIn
    rw [parts_one (s0 := 32) (by decide +kernel) (noC_mem n1)]
    show PyData.tuple (els (cellIn (cs (dotT s (.str z)))) ++ [if 1 < 1 then _ else (els (cellIn (cs (dotT s (.str z))))).getLastD .none]) = _
    rw [cell_in hs hn, if_neg (Nat.lt_irrefl 1)]
    rfl
  · have e : cs (srcT (.tuple [s, .str y, .str z])) = cs (dotT s (.str y)) ++ (cs (" " : Str) ++ cs z) := by
      have e : srcT (.tuple [s, .str y, .str z]) = dotT s (.str y) ++ (" " : Str) ++ z := if_neg q
      rw [e, cs_cat, cs_cat, List.append_assoc]
    rw [e]
    unfold originIn
    rw [parts_two (s0 := 32) (by decide +kernel) (noC_mem n1) (noC_mem (not_low (val_cs hz).1 (by decide +kernel)))]
    show PyData.tuple (els (cellIn (cs (dotT s (.str y)))) ++ [if 1 < 2 then strD (cs z) else _]) = _
    rw [cell_in hs hn, if_pos (Nat.lt_succ_self 1), strD_cs]
    rfl

/-! ### blanks of the parts of a statement -/
def eTail : List Cs := [cs "as ", cs "where ", cs "and ", cs "= ", cs "in (", cs "("]
def eCond : List Cs := [cs "and ", cs "= ", cs "in (", cs "("]
def eAsk : List Cs := [cs "= ", cs "in (", cs "("]
theorem name_cs_not {n : PyData} {r : Cs} {P : Cs → Prop} (h : namD n = true) : BkS P (cs (sv n)) r := sp_none (name_not h (by decide +kernel))
theorem fo_name {e : List Cs} {n : PyData} {r : Cs} (h : namD n = true) (hr : Stop r) : Fo e (cs (sv n) ++ r) := by
  obtain ⟨z, rfl, _⟩ := namE h
  exact .inr (.inl ⟨z, r, h, hr, rfl⟩)
theorem told_text {d : PyData} (h : toldD d = true) : (∃ n, namD n = true ∧ cs (toldT d) = cs (sv n) ++ [46, 42]) ∨ (∃ a b, nnD a = true ∧ namD b = true ∧ cs (toldT d) = cs (dotT a b)) ∨ ∃ t n, (colD t || valD t || callD 3 t) = true ∧ namD n = true ∧ cs (toldT d) = cs (termT 3 t) ++ (cs (" as " : Str) ++ cs (sv n)) := by
  rcases toldE h with ⟨n, rfl, hn⟩ | ⟨c, n, rfl, hc, hn⟩ | ⟨t, n, rfl, ht, hn⟩
  · exact .inl ⟨n, hn, by show cs (sv n ++ (".*" : Str)) = _; rw [cs_cat]; rfl⟩
  · obtain ⟨a, b, rfl, ha, hb⟩ := colE hc
    by_cases q : sv b = sv n
    · exact .inr (.inl ⟨a, b, ha, hb, by rw [show toldT (.tuple [.str "column", .tuple [a, b], n]) = dotT a b from if_pos q]⟩)
    · exact .inr (.inr ⟨.tuple [a, b], n, by rw [hc]; rfl, hn, by
        rw [show toldT (.tuple [.str "column", .tuple [a, b], n]) = dotT a b ++ (" as " : Str) ++ sv n from if_neg q, cs_cat, cs_cat, List.append_assoc]; rfl⟩)
  · have e : toldT (.tuple [.str "term", t, n]) = termT 3 t ++ (" as " : Str) ++ sv n := by
      rcases ht with ht | ht
      · obtain ⟨z, rfl, _⟩ := valE ht
        rfl
      · obtain ⟨j, s, m, ts, _, rfl, _⟩ := callE ht
        rfl
    exact .inr (.inr ⟨t, n, by rcases ht with ht | ht <;> rw [ht] <;> simp, hn, by rw [e, cs_cat, cs_cat, List.append_assoc]⟩)
theorem as_two : cs (" as " : Str) = [32] ++ ([97, 115] ++ (32 :: [])) := by decide +kernel
theorem sp_told {e : List Cs} (he : cs "as " ∈ e) {d : PyData} (h : toldD d = true) : (∀ r, Stop r → BkS (Fo e) (cs (toldT d)) r) ∧ ∀ r, Stop r → Fo e (cs (toldT d) ++ r) := by
  rcases told_text h with ⟨n, hn, e1⟩ | ⟨a, b, ha, hb, e1⟩ | ⟨t, n, ht, hn, e1⟩
  · rw [e1]
    refine ⟨fun r _ => sp_app (name_cs_not hn) (sp_none (by decide)), fun r _ => ?_⟩
    rw [List.append_assoc]
    exact fo_name hn fun c e => by cases e; decide +kernel
  · rw [e1]
    exact ⟨fun r _ => sp_none (dot_not ha hb (by decide +kernel) (by decide)), fun r hr => fo_dot ha hb hr⟩
  · rw [e1]
    refine ⟨fun r hr => sp_app (sp_term 3 ht _) ?_, fun r _ => ?_⟩
    · rw [as_cs]
      refine sp_app (sp_cons (.inr (.inr ⟨_, he, _, rfl⟩)) ?_) (name_cs_not hn)
      have e2 : cs ("as " : Str) = [97, 115] ++ (32 :: []) := by decide +kernel
      rw [e2]
      exact sp_app (sp_none (by decide)) (sp_cons (fo_name hn hr) (sp_none (by decide)))
    · rw [List.append_assoc]
      exact fo_term ht fun c e => by cases e; decide +kernel
theorem src_text {d : PyData} (h : srcD d = true) : ∃ s n, nnD s = true ∧ namD n = true ∧ (cs (srcT d) = cs (dotT s n) ∨ ∃ l, namD l = true ∧ cs (srcT d) = cs (dotT s n) ++ (32 :: cs (sv l))) := by
  obtain ⟨s, n, l, rfl, hs, hn, hl⟩ := srcE h
  refine ⟨s, n, hs, hn, ?_⟩
  by_cases q : sv l = sv n
  · exact .inl (by rw [show srcT (.tuple [s, n, l]) = dotT s n from if_pos q])
  · exact .inr ⟨l, hl, by rw [show srcT (.tuple [s, n, l]) = dotT s n ++ (" " : Str) ++ sv l from if_neg q, cs_cat, cs_cat, List.append_assoc]; rfl⟩
theorem sp_src {e : List Cs} {d : PyData} (h : srcD d = true) : (∀ r, Stop r → BkS (Fo e) (cs (srcT d)) r) ∧ ∀ r, Stop r → Fo e (cs (srcT d) ++ r) := by
  obtain ⟨s, n, hs, hn, e1 | ⟨l, hl, e1⟩⟩ := src_text h
  · rw [e1]
    exact ⟨fun r _ => sp_none (dot_not hs hn (by decide +kernel) (by decide)), fun r hr => fo_dot hs hn hr⟩
  · rw [e1]
    refine ⟨fun r hr => sp_app (sp_none (dot_not hs hn (by decide +kernel) (by decide))) (sp_cons (fo_name hl hr) (name_cs_not hl)), fun r _ => ?_⟩
    rw [List.append_assoc]
    exact fo_dot hs hn fun c e => by cases e; decide +kernel
theorem src_no44 {d : PyData} (h : srcD d = true) : 44 ∉ cs (srcT d) := by
  obtain ⟨s, n, hs, hn, e1 | ⟨l, hl, e1⟩⟩ := src_text h
  · rw [e1]; exact dot_not hs hn (by decide +kernel) (by decide)
  · rw [e1]
    intro m
    rcases List.mem_append.mp m with m | m
    · exact dot_not hs hn (by decide +kernel) (by decide) m
    · rcases List.mem_cons.mp m with m | m
      · cases m
      · exact name_not hl (by decide +kernel) m
theorem sp_cond {e : List Cs} (h1 : cs "= " ∈ e) (h2 : cs "in (" ∈ e) (h3 : cs "(" ∈ e) {d : PyData} (h : condD d = true) : (∀ r, Stop r → BkS (Fo e) (cs (condT d)) r) ∧ ∀ r, Stop r → Fo e (cs (condT d) ++ r) := by
  rcases condE h with ⟨a, b, rfl, ha, hb⟩ | ⟨a, ds, rfl, ha, hl, hv⟩
  · obtain ⟨a1, b1, rfl, ha1, hb1⟩ := colE ha
    obtain ⟨a2, b2, rfl, ha2, hb2⟩ := colE hb
    rw [eqc_cs]
    have n1 := dot_not (c := 32) ha1 hb1 (by decide +kernel) (by decide)
    have n2 := dot_not (c := 32) ha2 hb2 (by decide +kernel) (by decide)
    refine ⟨fun r hr => sp_app (sp_none n1) (sp_app ?_ (sp_none n2)), fun r _ => ?_⟩
    · rw [eq_cs]
      refine sp_cons (.inr (.inr ⟨_, h1, _, rfl⟩)) ?_
      have e : cs ("= " : Str) = [61] ++ (32 :: []) := by decide +kernel
      rw [e]
      exact sp_app (sp_none (by decide)) (sp_cons (fo_dot ha2 hb2 hr) (sp_none (by decide)))
    · rw [List.append_assoc]
      exact fo_dot ha1 hb1 fun c e => by cases e; decide +kernel
  · obtain ⟨a1, b1, rfl, ha1, hb1⟩ := colE ha
    rw [inc_cs]
    have n1 := dot_not (c := 32) ha1 hb1 (by decide +kernel) (by decide)
    refine ⟨fun r hr => sp_app (sp_none n1) (sp_app ?_ (sp_app (sp_vals hv.2 (fun c e => by cases e; decide +kernel)) (sp_none (by decide)))), fun r _ => ?_⟩
    · rw [in_cs]
      refine sp_cons (.inr (.inr ⟨_, h2, _, rfl⟩)) ?_
      have e : cs ("in (" : Str) = [105, 110] ++ (32 :: [40]) := by decide +kernel
      rw [e]
      exact sp_app (sp_none (by decide)) (sp_cons (.inr (.inr ⟨_, h3, _, rfl⟩)) (sp_none (by decide)))
    · rw [List.append_assoc]
      exact fo_dot ha1 hb1 fun c e => by cases e; decide +kernel

/-! ### the whole text -/
theorem term_last {k : Nat} {d : PyData} (h : (colD d || valD d || callD k d) = true) : (cs (termT k d)).getLast? ≠ some 44 := by
  rw [Bool.or_eq_true, Bool.or_eq_true] at h
  rcases h with (h | h) | h
  · obtain ⟨a, b, rfl, ha, hb⟩ := colE h
    have e : termT k (.tuple [a, b]) = dotT a b := by cases k <;> rfl
    rw [e]
    exact fun q => dot_not ha hb (c := 44) (by decide +kernel) (by decide) (List.mem_of_getLast? q)
  · obtain ⟨z, rfl, hz⟩ := valE h
    have e : termT k (.str z) = quoT z := by cases k <;> rfl
    rw [e]
    exact fun q => val_not hz (c := 44) (by decide +kernel) (by decide) (List.mem_of_getLast? q)
  · obtain ⟨j, s, n, ts, rfl, rfl, hs, hn, l1, l2, hts⟩ := callE h
    rw [call_cs, par_cs]
    intro q
    have e : cs (dotT s n) ++ 40 :: (joinC (cs ", ") (ts.map fun t => cs (termT j t)) ++ [41]) = (cs (dotT s n) ++ 40 :: joinC (cs ", ") (ts.map fun t => cs (termT j t))) ++ [41] := by simp
    rw [e, List.getLast?_append] at q
    cases q
theorem ls_blank {done : List Cs} {last : Cs} (h : last.getLast? ≠ some 44) : lsStep (done, last, 0) 32 = (done, last ++ [32], 0) := by
  unfold lsStep
  rw [if_neg (fun q => h q.2.2)]
  simp
theorem ln_told {d : PyData} (h : toldD d = true) : LN (cs (toldT d)) := by
  rcases told_text h with ⟨n, hn, e1⟩ | ⟨a, b, ha, hb, e1⟩ | ⟨t, n, ht, hn, e1⟩
  · rw [e1]
    exact (l0_app (l0_plain (name_not hn (by decide +kernel)) (name_not hn (by decide +kernel)) (name_not hn (by decide +kernel))) (l0_plain (by decide) (by decide) (by decide))).n
  · rw [e1]
    exact (l0_plain (dot_not ha hb (by decide +kernel) (by decide)) (dot_not ha hb (by decide +kernel) (by decide)) (dot_not ha hb (by decide +kernel) (by decide))).n
  · rw [e1]
    intro done
    have e2 : cs (" as " : Str) = 32 :: ([97, 115] ++ [32]) := by decide +kernel
    rw [List.foldl_append, l0_term 3 ht done [], List.nil_append, List.foldl_append, e2, List.foldl_cons, ls_blank (term_last ht), List.foldl_append, l0_plain (l := [97, 115]) (by decide) (by decide) (by decide), List.foldl_cons, List.foldl_nil, ls_blank (by rw [List.getLast?_append]; show (some 115 : Option Nat) ≠ some 44; decide), l0_plain (name_not hn (by decide +kernel)) (name_not hn (by decide +kernel)) (name_not hn (by decide +kernel))]
    simp
theorem res_no {e : List Cs} {y w : Cs} (hw : w = y ++ [32]) (hy : mkS y ∈ resv) (hyl : y.all lowC = true) (h1 : 1 ≤ y.length) (he : ∀ y' ∈ e, ∀ r, w.isPrefixOf (y' ++ r) = false) : ∀ t, Fo e t → w.isPrefixOf t = false := fun t h => by
  subst hw
  exact fo_noR (w' := []) (c := 32) hy hyl (by decide +kernel) h1 he h
theorem from_cs : cs (" from " : Str) = 32 :: cs ("from " : Str) := by decide +kernel
theorem where_cs2 : cs (" where " : Str) = 32 :: cs ("where " : Str) := by decide +kernel
theorem and_cs : cs (" and " : Str) = 32 :: cs ("and " : Str) := by decide +kernel
theorem from_no1 : ∀ t, Fo [cs "as "] t → (cs ("from " : Str)).isPrefixOf t = false := res_no (y := cs "from") (by decide +kernel) (by decide +kernel) (by decide +kernel) (by decide +kernel) fun y h r => by
  rw [List.mem_singleton.mp h]; rfl
theorem from_no2 : ∀ t, Fo eTail t → (cs ("from " : Str)).isPrefixOf t = false := res_no (y := cs "from") (by decide +kernel) (by decide +kernel) (by decide +kernel) (by decide +kernel) fun y h r => by
  simp only [eTail, List.mem_cons, List.not_mem_nil, or_false] at h
  rcases h with rfl | rfl | rfl | rfl | rfl | rfl <;> rfl
theorem where_no1 : ∀ t, Fo [] t → (cs ("where " : Str)).isPrefixOf t = false := res_no (y := cs "where") (by decide +kernel) (by decide +kernel) (by decide +kernel) (by decide +kernel) fun y h r => by cases h
theorem where_no2 : ∀ t, Fo eCond t → (cs ("where " : Str)).isPrefixOf t = false := res_no (y := cs "where") (by decide +kernel) (by decide +kernel) (by decide +kernel) (by decide +kernel) fun y h r => by
  simp only [eCond, List.mem_cons, List.not_mem_nil, or_false] at h
  rcases h with rfl | rfl | rfl | rfl <;> rfl
theorem and_no : ∀ t, Fo eAsk t → (cs ("and " : Str)).isPrefixOf t = false := res_no (y := cs "and") (by decide +kernel) (by decide +kernel) (by decide +kernel) (by decide +kernel) fun y h r => by
  simp only [eAsk, List.mem_cons, List.not_mem_nil, or_false] at h
  rcases h with rfl | rfl | rfl <;> rfl
theorem and_sp {e : List Cs} (he : cs "and " ∈ e) : ∀ t, Fo e t → BkS (Fo e) (cs " and ") t := fun t h => by
  rw [and_cs]
  refine sp_cons (.inr (.inr ⟨_, he, _, rfl⟩)) ?_
  have e2 : cs ("and " : Str) = [97, 110, 100] ++ (32 :: []) := by decide +kernel
  rw [e2]
  exact sp_app (sp_none (by decide)) (sp_cons h (sp_none (by decide)))
theorem and_stop : ∀ t, Stop (cs (" and " : Str) ++ t) := fun t c e => by cases e; decide +kernel
def tolds (ts : List PyData) : Cs := joinC (cs ", ") (ts.map fun t => cs (toldT t))
def srcs (ss : List PyData) : Cs := joinC (cs ", ") (ss.map fun t => cs (srcT t))
def conds (cc : List PyData) : Cs := joinC (cs " and ") (cc.map fun t => cs (condT t))
theorem sp_tolds {e : List Cs} (he : cs "as " ∈ e) {ts : List PyData} (h : ∀ x ∈ ts, toldD x = true) {r : Cs} (hr : Stop r) : BkS (Fo e) (tolds ts) r :=
  sp_join comma_sp comma_stop _ (fun x hx => by
    obtain ⟨t, ht, rfl⟩ := List.mem_map.mp hx
    exact sp_told he (h t ht)) r hr
theorem sp_srcs {e : List Cs} {ss : List PyData} (h : ∀ x ∈ ss, srcD x = true) {r : Cs} (hr : Stop r) : BkS (Fo e) (srcs ss) r :=
  sp_join comma_sp comma_stop _ (fun x hx => by
    obtain ⟨t, ht, rfl⟩ := List.mem_map.mp hx
    exact sp_src (h t ht)) r hr
theorem sp_conds {e : List Cs} (h0 : cs "and " ∈ e) (h1 : cs "= " ∈ e) (h2 : cs "in (" ∈ e) (h3 : cs "(" ∈ e) {cc : List PyData} (h : ∀ x ∈ cc, condD x = true) {r : Cs} (hr : Stop r) : BkS (Fo e) (conds cc) r :=
  sp_join (and_sp h0) and_stop _ (fun x hx => by
    obtain ⟨t, ht, rfl⟩ := List.mem_map.mp hx
    exact sp_cond h1 h2 h3 (h t ht)) r hr
theorem stop_flat {sep : Cs} (hst : ∀ t, Stop (sep ++ t)) {r : Cs} (hr : Stop r) : ∀ l : List Cs, Stop ((l.map fun p => sep ++ p).flatten ++ r)
  | [] => hr
  | p :: l => by
    have e : ((p :: l).map fun p => sep ++ p).flatten ++ r = sep ++ (p ++ (l.map fun p => sep ++ p).flatten ++ r) := by
      simp only [List.map_cons, List.flatten_cons, List.append_assoc]
    rw [e]
    exact hst _
theorem fo_conds {e : List Cs} (h1 : cs "= " ∈ e) (h2 : cs "in (" ∈ e) (h3 : cs "(" ∈ e) {cc : List PyData} (hn : cc ≠ []) (h : ∀ x ∈ cc, condD x = true) {r : Cs} (hr : Stop r) : Fo e (conds cc ++ r) := by
  cases cc with
  | nil => exact absurd rfl hn
  | cons c cc =>
    unfold conds
    show Fo e ((cs (condT c) ++ ((cc.map fun t => cs (condT t)).map fun p => cs " and " ++ p).flatten) ++ r)
    rw [List.append_assoc]
    exact (sp_cond h1 h2 h3 (h c List.mem_cons_self)).2 _ (stop_flat and_stop hr _)
theorem where_conds {cc : List PyData} (h : cc ≠ []) : cs (whereT cc) = cs (" where " : Str) ++ conds cc := by
  rw [where_cs cc h, cs_joinC, List.map_map]
  rfl
theorem stop_where (cc : List PyData) : Stop (cs (whereT cc)) := (goodS_where cc).1.1.stop
theorem sp_where {cc : List PyData} (h : ∀ x ∈ cc, condD x = true) : BkS (Fo eTail) (cs (whereT cc)) [] := by
  by_cases hn : cc = []
  · rw [hn]
    exact sp_none (by rw [where_nil]; decide)
  · rw [where_conds hn, where_cs2]
    have st : Stop [] := fun c e => by cases e
    refine sp_app (sp_cons (.inr (.inr ⟨cs "where ", by simp [eTail], _, rfl⟩)) ?_) (sp_conds (by simp [eTail]) (by simp [eTail]) (by simp [eTail]) (by simp [eTail]) h st)
    have e2 : cs ("where " : Str) = [119, 104, 101, 114, 101] ++ (32 :: []) := by decide +kernel
    rw [e2]
    exact sp_app (sp_none (by decide)) (sp_cons (fo_conds (by simp [eTail]) (by simp [eTail]) (by simp [eTail]) hn h st) (sp_none (by decide)))
theorem write_cs (b : Bool) (ts ss cc : List PyData) : cs (writeT (.tuple [.bool b, .tuple ts, .tuple ss, .tuple cc])) = cs (selT b) ++ (tolds ts ++ (cs (" from " : Str) ++ (srcs ss ++ cs (whereT cc)))) := by
  show cs (selT b ++ Txt.join (", " : Str) (ts.map toldT) ++ ((" from " : Str) ++ Txt.join (", " : Str) (ss.map srcT)) ++ whereT cc) = _
  rw [cs_cat, cs_cat, cs_cat, cs_cat, cs_joinC, cs_joinC, List.map_map, List.map_map]
  simp only [List.append_assoc]
  rfl
theorem map_back {f : Cs → PyData} {T : PyData → Str} {l : List PyData} (h : ∀ x ∈ l, f (cs (T x)) = x) : (l.map fun t => cs (T t)).map f = l := by
  rw [List.map_map]
  conv => rhs; rw [← List.map_id l]
  exact List.map_congr_left h
theorem map_ne {l : List PyData} {f : PyData → Cs} (h : 1 ≤ l.length) : l.map f ≠ [] := fun q => by
  rw [List.map_eq_nil_iff] at q
  rw [q] at h
  exact absurd h (by decide)
theorem due_ok {d : PyData} (h : stD d = true) : dueS (cs (writeT d)) = d := by
  obtain ⟨b, ts, ss, cc, rfl, ⟨t1, t2, ht⟩, ⟨s1, s2, hs⟩, c2, hc⟩ := stE h
  rw [write_cs]
  have st0 : Stop [] := fun c e => by cases e
  have eb : isDis (cs (selT b) ++ (tolds ts ++ (cs (" from " : Str) ++ (srcs ss ++ cs (whereT cc))))) = b := by
    cases b with
    | true =>
      unfold isDis
      rw [show cs (selT true) = cs "select distinct " from rfl]
      have el : (cs ("select distinct " : Str)).length = 16 := by decide +kernel
      rw [← el, List.take_left]
      exact decide_eq_true rfl
    | false =>
      unfold isDis
      refine decide_eq_false fun q => ?_
      rw [show cs (selT false) = cs "select " from rfl] at q
      have el : (cs ("select " : Str)).length = 7 := by decide +kernel
      rw [List.take_append, List.take_of_length_le (by rw [el]; decide), el] at q
      have e2 : cs ("select distinct " : Str) = cs ("select " : Str) ++ cs ("distinct " : Str) := by decide +kernel
      rw [e2] at q
      have q2 := List.append_cancel_left q
      cases ts with
      | nil => exact absurd t1 (by decide)
      | cons t0 ts =>
        have e3 : tolds (t0 :: ts) ++ (cs (" from " : Str) ++ (srcs ss ++ cs (whereT cc))) = cs (toldT t0) ++ (((ts.map fun t => cs (toldT t)).map fun p => cs ", " ++ p).flatten ++ (cs (" from " : Str) ++ (srcs ss ++ cs (whereT cc)))) := by
          show (cs (toldT t0) ++ ((ts.map fun t => cs (toldT t)).map fun p => cs ", " ++ p).flatten) ++ _ = _
          rw [List.append_assoc]
        rw [e3] at q2
        have n := first_told (ht t0 List.mem_cons_self) (((ts.map fun t => cs (toldT t)).map fun p => cs ", " ++ p).flatten ++ (cs (" from " : Str) ++ (srcs ss ++ cs (whereT cc)))) (by
          cases ts with
          | nil => exact fun c e => by cases e; exact .inl rfl
          | cons t ts => exact fun c e => by cases e; exact .inr (.inl rfl))
        unfold tk at n
        rw [if_pos (by rw [List.isPrefixOf_iff_prefix, ← q2]; exact List.take_prefix _ _)] at n
        cases n
  have eh : halves (cs (selT b) ++ (tolds ts ++ (cs (" from " : Str) ++ (srcs ss ++ cs (whereT cc))))) = [tolds ts, srcs ss ++ cs (whereT cc)] := by
    unfold halves
    rw [eb]
    have ed : (cs (selT b) ++ (tolds ts ++ (cs (" from " : Str) ++ (srcs ss ++ cs (whereT cc))))).drop (if b = true then 16 else 7) = tolds ts ++ (cs (" from " : Str) ++ (srcs ss ++ cs (whereT cc))) := by
      have el : (if b = true then 16 else 7) = (cs (selT b)).length := by cases b <;> decide +kernel
      rw [el, List.drop_left]
    rw [ed]
    refine parts_two (s0 := 32) (by decide +kernel) ?_ ?_
    · rw [from_cs]
      exact noC_sp (sp_tolds (List.mem_singleton_self _) ht fun c e => by cases e; decide +kernel) from_no1
    · rw [from_cs]
      refine noC_sp (sp_app (sp_srcs hs ?_) (sp_where hc)) from_no2
      rw [List.append_nil]
      exact stop_where cc
  have ee : ends (cs (selT b) ++ (tolds ts ++ (cs (" from " : Str) ++ (srcs ss ++ cs (whereT cc))))) = srcs ss :: (if cc = [] then [] else [conds cc]) := by
    unfold ends
    rw [eh]
    show partsC (cs " where ") (srcs ss ++ cs (whereT cc)) = _
    by_cases hn : cc = []
    · rw [if_pos hn, hn, where_nil, List.append_nil]
      refine parts_one (s0 := 32) (by decide +kernel) ?_
      rw [where_cs2]
      exact noC_sp (sp_srcs hs st0) where_no1
    · rw [if_neg hn, where_conds hn]
      refine parts_two (s0 := 32) (by decide +kernel) ?_ ?_
      · rw [where_cs2]
        exact noC_sp (sp_srcs hs fun c e => by cases e; decide +kernel) where_no1
      · rw [where_cs2]
        exact noC_sp (sp_conds (by simp [eCond]) (by simp [eCond]) (by simp [eCond]) (by simp [eCond]) hc st0) where_no2
  unfold dueS
  rw [eb, eh, ee]
  have f1 : (listedC ([tolds ts, srcs ss ++ cs (whereT cc)].headD [])).map toldIn = ts := by
    show (listedC (tolds ts)).map toldIn = ts
    unfold tolds
    rw [listed_join (map_ne t1) fun x hx => by
      obtain ⟨t, htm, rfl⟩ := List.mem_map.mp hx
      exact ln_told (ht t htm)]
    exact map_back fun x hx => told_in (ht x hx)
  have f2 : (partsC (cs ", ") ((srcs ss :: (if cc = [] then [] else [conds cc])).headD [])).map originIn = ss := by
    show (partsC (cs ", ") (srcs ss)).map originIn = ss
    unfold srcs
    rw [parts_join (s0 := 44) (by decide +kernel) (map_ne s1) fun x hx r _ => by
      obtain ⟨t, htm, rfl⟩ := List.mem_map.mp hx
      exact noC_mem (src_no44 (hs t htm))]
    exact map_back fun x hx => origin_in (hs x hx)
  have f3 : asksIn (srcs ss :: (if cc = [] then [] else [conds cc])) = cc := by
    by_cases hn : cc = []
    · rw [if_pos hn, hn]
      rfl
    · rw [if_neg hn]
      show (partsC (cs " and ") (conds cc)).map askIn = cc
      unfold conds
      rw [parts_join (s0 := 32) (by decide +kernel) (map_ne (Nat.pos_of_ne_zero fun q => hn (List.length_eq_zero_iff.mp q))) fun x hx r hr => by
        obtain ⟨t, htm, rfl⟩ := List.mem_map.mp hx
        rw [and_cs]
        refine noC_sp ((sp_cond (by simp [eAsk]) (by simp [eAsk]) (by simp [eAsk]) (hc t htm)).1 r ?_) and_no
        rcases hr with rfl | ⟨r', rfl⟩
        · exact st0
        · exact and_stop r']
      exact map_back fun x hx => ask_in (hc x hx)
  rw [f1, f2, f3]
end My

namespace My
open PySem PySem.Spec PyProof.Rows L2 PySem.Builtin PySem.Builtin.Str
section
variable {X : Cx} {o e a b : Expr} {σ : L2.St} {H : Hp} {Q : VK} {pos apos p2 : Pos}
/-- o.split(e) -/
theorem e_split (h : WE X o σ H fun x H1 => ∃ z, x = .str z ∧ WE X e σ H1 fun y H2 => ∃ s : Str, y = .str s ∧ (s.length == 0) = false ∧ z.length + 2 ≤ sizeLine ∧ rNewStrs (Txt.split z s) H2 Q)
    (hs : starEach [e] X.env = (false, eval e X.env) :: starEach [] X.env := by rfl)
    (hbase : attributeBase o "split" X.env (eval o X.env) = eval o X.env := by rfl)
    (hfew : ((backTo pos (starEach [e] X.env)).all (fun x => !x.1) && (backToKw pos (keywordEach [] X.env)).all (fun x => x.1.isSome) && decide ([e].length + ([] : List Keyword).length + (if ([] : List Keyword).isEmpty then 0 else 1) < 30)) = true := by rfl)
    (hline : (apos.endLine == pos.line) = true := by rfl) (hplain : (backTo pos (starEach [] X.env)).any (·.1) = false := by rfl) :
    WE X (.Call (.Attribute o "split" apos) [e] [] pos) σ H Q :=
  toE (pe_bm PySem.F.plainAttrs_str PySem.F.slot_str_split PySem.F.type_str_split mt_split pE pA hbase hfew hline hs hplain) (WE.mono h fun x H1 ⟨z, e1, h2⟩ => by
    subst e1
    exact ⟨rfl, a_cons (WE.mono h2 fun y H2 ⟨s, e2, h3, h4, q⟩ => a_nil ⟨z, s, rfl, by rw [e2], h3, h4, q⟩) hs⟩)
end
section
variable {X : Cx} {ρ : Rho} {a b c e o lo hi elt iter : Expr} {es rest : List Expr} {d d1 d2 : PyData} {ds ds2 : List PyData} {pos apos p p2 p3 pc pt : Pos} {x y : Str} {k m : Bool} {scope : Scope}
theorem d_split {z s : Str} (h : ED X ρ o (.str z)) (h2 : ED X ρ e (.str s)) (hz : z.length ≤ 200000) (hy : (s.length == 0) = false := by decide +kernel)
    (hs : starEach [e] X.env = (false, eval e X.env) :: starEach [] X.env := by rfl)
    (hbase : attributeBase o "split" X.env (eval o X.env) = eval o X.env := by rfl)
    (hfew : ((backTo pos (starEach [e] X.env)).all (fun x => !x.1) && (backToKw pos (keywordEach [] X.env)).all (fun x => x.1.isSome) && decide ([e].length + ([] : List Keyword).length + (if ([] : List Keyword).isEmpty then 0 else 1) < 30)) = true := by rfl)
    (hline : (apos.endLine == pos.line) = true := by rfl) (hplain : (backTo pos (starEach [] X.env)).any (·.1) = false := by rfl) :
    ED X ρ (.Call (.Attribute o "split" apos) [e] [] pos) (.list ((Txt.split z s).map PyData.str)) := fun S σ H Q sl q =>
  e_split (h S σ H _ sl fun v H1 s1 g1 => by
    cases g1
    exact ⟨z, rfl, h2 S σ H1 _ (sl.same s1) fun u H2 s2 g2 => by
      cases g2
      exact ⟨s, rfl, hy, Nat.le_trans (show z.length + 2 ≤ 200002 by omega) (by decide), fun p hp => q _ _ ((s1.trans s2).trans (same_new hp)) (.lst upd_same (new_nS hp (s1.trans s2) sl.dom) DGs.ofS)⟩⟩) hs hbase hfew hline hplain
/-- text[i:], text[:i], text[i:j] -/
theorem d_slSf {z : Str} {i : Int} {lo : Expr} {p2 : Pos} (h : ED X ρ e (.str z)) (h1 : ED X ρ lo (.int i)) (l : z.length ≤ 200000) : ED X ρ (.Subscript e (.Slice (some lo) none none p2) pos) (.str (cutS z (some i) none)) := fun S σ H Q sl q =>
  e_slSfrom (h S σ H _ sl fun v H1 s1 g1 => h1 S σ H1 _ (sl.same s1) fun u H2 s2 g2 => by
    cases g1; cases g2
    exact ⟨i, z, rfl, rfl, Nat.le_trans l (by decide), q _ _ (s1.trans s2) (.str _)⟩)
theorem d_slSt {z : Str} {i : Int} {hi : Expr} {p2 : Pos} (h : ED X ρ e (.str z)) (h1 : ED X ρ hi (.int i)) (l : z.length ≤ 200000) : ED X ρ (.Subscript e (.Slice none (some hi) none p2) pos) (.str (cutS z none (some i))) := fun S σ H Q sl q =>
  e_slSto (h S σ H _ sl fun v H1 s1 g1 => h1 S σ H1 _ (sl.same s1) fun u H2 s2 g2 => by
    cases g1; cases g2
    exact ⟨i, z, rfl, rfl, Nat.le_trans l (by decide), q _ _ (s1.trans s2) (.str _)⟩)
theorem d_slS2 {z : Str} {i j : Int} (h : ED X ρ e (.str z)) (h1 : ED X ρ lo (.int i)) (h2 : ED X ρ hi (.int j)) (l : z.length ≤ 200000) : ED X ρ (.Subscript e (.Slice (some lo) (some hi) none p2) pos) (.str (cutS z (some i) (some j))) := fun S σ H Q sl q =>
  e_slS (h S σ H _ sl fun v H1 s1 g1 => h1 S σ H1 _ (sl.same s1) fun u H2 s2 g2 => by
    cases g1; cases g2
    exact ⟨i, rfl, h2 S σ H2 _ (sl.same (s1.trans s2)) fun u2 H3 s3 g3 => by
      cases g3
      exact ⟨z, j, rfl, rfl, Nat.le_trans l (by decide), q _ _ (s1.trans (s2.trans s3)) (.str _)⟩⟩)
/-- the last of a list, of a tuple -/
theorem last_at {α : Type} {xs : List α} {w : α} (h : xs.getLast? = some w) : atI xs (-1) = some w := by
  have hl : 0 < xs.length := by
    cases xs with
    | nil => cases h
    | cons _ _ => exact Nat.succ_pos _
  have e : ixN xs.length (-1) = some (xs.length - 1) := by
    unfold ixN
    rw [if_neg (by decide), if_pos (by omega)]
    congr 1
    omega
  unfold atI
  rw [e]
  show xs[xs.length - 1]? = some w
  rw [← List.getLast?_eq_getElem?]
  exact h
theorem DGs.last {S : Addr → Prop} {H : Hp} {xs : List V} {ds : List PyData} {d : PyData} (h : DGs S H xs ds) (e : ds.getLast? = some d) : ∃ w, xs.getLast? = some w ∧ DG S H w d := by
  have hl := h.length
  have h0 : 0 < ds.length := by
    cases ds with
    | nil => cases e
    | cons _ _ => exact Nat.succ_pos _
  rw [List.getLast?_eq_getElem?] at e
  rw [List.getLast?_eq_getElem?, hl]
  have lt : ds.length - 1 < xs.length := by omega
  obtain ⟨d', e1, e2⟩ := h.get (List.getElem?_eq_getElem lt)
  rw [e] at e1
  cases e1
  exact ⟨_, List.getElem?_eq_getElem lt, e2⟩
theorem d_lastL (ha : ED X ρ a (.list ds)) (hb : ED X ρ b (.int (-1))) (hi : ds.getLast? = some d) (hs : PlainIx b := by exact fun _ _ => rfl) : ED X ρ (.Subscript a b pos) d := fun S σ H Q sl q =>
  e_ixL (ha S σ H _ sl fun v H1 s1 g1 => hb S σ H1 _ (sl.same s1) fun u H2 s2 g2 => by
    cases g2
    obtain ⟨a, xs, rfl, _, hs, sq⟩ := (g1.same s2).seqL (K := X.K)
    obtain ⟨w, hw, gw⟩ := hs.last hi
    exact ⟨a, xs, -1, w, rfl, rfl, sq, last_at hw, q _ H2 (s1.trans s2) gw⟩) hs
theorem d_lastT (ha : ED X ρ a (.tuple ds)) (hb : ED X ρ b (.int (-1))) (hi : ds.getLast? = some d) (hs : PlainIx b := by exact fun _ _ => rfl) : ED X ρ (.Subscript a b pos) d := fun S σ H Q sl q =>
  e_ixT (ha S σ H _ sl fun v H1 s1 g1 => hb S σ H1 _ (sl.same s1) fun u H2 s2 g2 => by
    cases g2
    obtain ⟨a, xs, rfl, _, hs, sq⟩ := (g1.same s2).seq (K := X.K)
    obtain ⟨w, hw, gw⟩ := hs.last hi
    exact ⟨a, xs, -1, w, rfl, rfl, sq, last_at hw, q _ H2 (s1.trans s2) gw⟩) hs
/-- a comprehension over a list -/
theorem d_lcL {n : Nat} (j : Nat) (f : PyData → PyData) (hN : X.N.Nodup) (okb : BlkOk X.N X.env.scope scope [(x, j)]) (h : ED X ρ iter (.list ds)) (l : ds.length ≤ 200000) (hel : ∀ d ∈ ds, BD X scope (ρ.set j (some d)) elt (f d))
    (hg : ∀ (s : Shared) (H : Hp) (C : Addr) (cl : List (Str × Addr)) (fp : List Addr), PG (X.blk s H scope (compEnvC scope cl C X.env) fp) (.Name x pt) (gName j))
    (hc : X.calm = true := by rfl) (hs : ∀ z, foldedSetIterable iter X.env z = pure z := by intro _; rfl) : ED X ρ (.ListComp elt [⟨.Name x pt, iter, [], 0⟩] scope pos) (.list (ds.map f)) := fun S σ H Q sl q => by
  refine e_lcL j hN okb (h S σ H _ sl fun v H1 s1 g1 => ?_) hg hc hs
  obtain ⟨a, xs, rfl, ha, hds, sq⟩ := g1.seqL (K := X.K)
  refine ⟨a, xs, rfl, sq, fun D nD => ?_⟩
  have sl1 := sl.same s1
  have slD := sl1.and1 (o := .lst []) nD
  have hdsD := hds.mono (T := And1 S D) (My.Same.tups (same_new (o := .lst []) nD)) fun a u n e => ⟨fun z => z.elim n fun z => (by rw [z, nD] at e; cases e), by rw [upd_ne (ne_of_none e nD)]; exact e⟩
  have lx := hds.length
  refine ⟨fun i H' => ∃ ys, (∀ b o, b ≠ D → (L2.upd H1 D (.lst [])) b = some o → H' b = some o) ∧ H' D = some (.lst ys) ∧ ys.length = i ∧ DGs (And1 S D) H' ys ((ds.take i).map f), ?_, ?_, ?_, ?_⟩
  · exact ⟨[], fun b o _ e => e, upd_same, rfl, .nil⟩
  · rintro i H' _ ⟨ys, k1, _⟩
    exact .inl (.inl (k1 a _ (ne_of_none ha nD) (same_new nD _ _ ha)))
  · rintro i y H' hi ⟨ys, k1, k2, k3, k4⟩ s0 H00 C cl fp
    obtain ⟨d, hd, hy⟩ := hdsD.get hi
    have keep : ∀ {v : V} {d : PyData}, DG (And1 S D) (L2.upd H1 D (.lst [])) v d → DG (And1 S D) H' v d := fun g => g.mono (fun b xs e => k1 b _ (ne_of e upd_same (fun z => by cases z)) e) fun a o n e => ⟨n, k1 a o (fun z => n (.inr z)) e⟩
    have slp : SL (And1 S D) H' σ ρ := ⟨fun b z w => by
      cases e : (L2.upd H1 D (.lst [])) b with
      | none => exact slD.dom b z e
      | some o =>
        by_cases bD : b = D
        · rw [bD, k2] at w; cases w
        · (rw [k1 b o bD e] at w; cases w), fun i d q => let ⟨v, a, b⟩ := slD.look i d q; ⟨v, a, keep b⟩, slD.len⟩
    have sl2 := SL.set (i := j) slp (keep hy)
    have ew : (L2.wipe σ [j]).set j (some y) = σ.set j (some y) := by show (σ.set j none).set j (some y) = _; rw [List.set_set]
    rw [ew]
    refine hel d (List.mem_of_getElem? hd) s0 H00 C cl fp (And1 S D) _ H' _ sl2 fun z H4 s4 g4 => ?_
    have h4 := s4 _ _ k2
    refine ⟨ys, h4, by rw [k3]; exact Nat.lt_of_lt_of_le (show i < 200001 by have := (List.getElem?_eq_some_iff.mp hd).1; omega) (by decide), ys ++ [z], fun b o n e => ?_, upd_same, by rw [List.length_append, k3]; rfl, ?_⟩
    · rw [upd_ne n]; exact s4 _ _ (k1 b o n e)
    · have lt : i < ds.length := (List.getElem?_eq_some_iff.mp hd).1
      have e : ds[i] = d := by rw [List.getElem?_eq_getElem lt] at hd; exact Option.some.inj hd
      rw [List.take_succ_eq_append_getElem lt, List.map_append, e]
      exact ((k4.same s4).append (.cons g4 .nil)).put h4
  · rintro H' ⟨ys, k1, k2, k3, k4⟩
    rw [lx, List.take_length] at k4
    refine q _ H' (s1.trans fun b o e => k1 b o (ne_of_none e nD) (same_new nD b o e)) (.lst k2 (fun z => sl1.dom D z nD) k4.un1)
end
/-! ### cuts of texts, sign by sign -/
theorem cs_cut (z : Str) (lo hi : Option Int) : cs (cutS z lo hi) = ((cs z).take (HT.sIx (cs z).length (cs z).length hi)).drop (HT.sIx (cs z).length 0 lo) := by
  rw [List.drop_take]
  rfl
theorem take_min {l : Cs} {i : Nat} : l.take (min i l.length) = l.take i := by
  rcases Nat.le_total i l.length with h | h
  · rw [Nat.min_eq_left h]
  · rw [Nat.min_eq_right h, List.take_length, List.take_of_length_le h]
theorem drop_min {l : Cs} {i : Nat} : l.drop (min i l.length) = l.drop i := by
  rcases Nat.le_total i l.length with h | h
  · rw [Nat.min_eq_left h]
  · rw [Nat.min_eq_right h, List.drop_length, List.drop_of_length_le h]
theorem sIx_neg (n d k : Nat) (hk : 1 ≤ k) : HT.sIx n d (some (-(k : Int))) = n - k := by
  show (if (-(k : Int)) < 0 then ((-(k : Int)) + (n : Int)).toNat else _) = n - k
  rw [if_pos (by omega)]
  omega
theorem cut_to (z : Str) (i : Nat) : cs (cutS z none (some (i : Int))) = (cs z).take i := by
  rw [cs_cut, HT.sIx_nat, take_min]
  rfl
theorem cut_from (z : Str) (i : Nat) : cs (cutS z (some (i : Int)) none) = (cs z).drop i := by
  rw [cs_cut, HT.sIx_nat]
  show ((cs z).take (cs z).length).drop _ = _
  rw [List.take_length, drop_min]
theorem cut_last (z : Str) (k : Nat) (hk : 1 ≤ k) : cs (cutS z (some (-(k : Int))) none) = (cs z).drop ((cs z).length - k) := by
  rw [cs_cut, sIx_neg _ _ _ hk]
  show ((cs z).take (cs z).length).drop _ = _
  rw [List.take_length]
theorem cut_but (z : Str) (k : Nat) (hk : 1 ≤ k) : cs (cutS z none (some (-(k : Int)))) = (cs z).take ((cs z).length - k) := by
  rw [cs_cut, sIx_neg _ _ _ hk]
  rfl
theorem cut_mid (z : Str) (i k : Nat) (hk : 1 ≤ k) : cs (cutS z (some (i : Int)) (some (-(k : Int)))) = ((cs z).take ((cs z).length - k)).drop i := by
  rw [cs_cut, sIx_neg _ _ _ hk, HT.sIx_nat]
  rcases Nat.le_total i (cs z).length with h | h
  · rw [Nat.min_eq_left h]
  · rw [Nat.min_eq_right h, List.drop_of_length_le (by rw [List.length_take]; omega), List.drop_of_length_le (by rw [List.length_take]; omega)]
theorem cut_b1 (z : Str) : cs (cutS z none (some (-1))) = (cs z).dropLast := by
  have := cut_but z 1 (Nat.le_refl _)
  rw [List.dropLast_eq_take]
  exact this
theorem cut_b2 (z : Str) : cs (cutS z none (some (-2))) = (cs z).dropLast.dropLast := by
  have := cut_but z 2 (by decide)
  rw [List.dropLast_eq_take, List.dropLast_eq_take, List.take_take, List.length_take]
  refine Eq.trans this ?_
  congr 1
  omega
theorem cut_m1 (z : Str) (i : Nat) : cs (cutS z (some (i : Int)) (some (-1))) = (cs z).dropLast.drop i := by
  have := cut_mid z i 1 (Nat.le_refl _)
  rw [List.dropLast_eq_take]
  exact this
/-! ### the parts of a text -/
theorem split_sub {y : Cs} : ∀ (n : Nat) (l : Cs), ∀ p ∈ splitC y n l, p.length ≤ l.length ∧ ∀ c ∈ p, c ∈ l
  | 0, l, p, h => by
    rw [show splitC y 0 l = [l] from rfl, List.mem_singleton] at h
    subst h
    exact ⟨Nat.le_refl _, fun c h => h⟩
  | n + 1, l, p, h => by
    cases q : cutC y l with
    | none =>
      rw [split1 q, List.mem_singleton] at h
      subst h
      exact ⟨Nat.le_refl _, fun c h => h⟩
    | some x =>
      rw [split2 (a := x.1) (r := x.2) q] at h
      have e := cutC_eq (p := x.1) (r := x.2) q
      have el := congrArg List.length e
      rw [List.length_append, List.length_append] at el
      rcases List.mem_cons.mp h with h | h
      · subst h
        exact ⟨by omega, fun c h => by rw [e]; exact List.mem_append_left _ h⟩
      · obtain ⟨i1, i2⟩ := split_sub n x.2 p h
        exact ⟨by omega, fun c h => by rw [e]; exact List.mem_append_right _ (List.mem_append_right _ (i2 c h))⟩
theorem split_many {y : Cs} (hy : 1 ≤ y.length) : ∀ (n : Nat) (l : Cs), (splitC y n l).length ≤ l.length + 1
  | 0, l => by show 1 ≤ _; omega
  | n + 1, l => by
    cases q : cutC y l with
    | none => rw [split1 q]; show 1 ≤ _; omega
    | some x =>
      rw [split2 (a := x.1) (r := x.2) q]
      have el := congrArg List.length (cutC_eq (p := x.1) (r := x.2) q)
      rw [List.length_append, List.length_append] at el
      have := split_many hy n x.2
      rw [List.length_cons]
      omega
theorem split_ne {y : Cs} (n : Nat) (l : Cs) : splitC y n l ≠ [] := by
  cases n with
  | zero => exact fun z => by cases z
  | succ n =>
    cases q : cutC y l with
    | none => rw [split1 q]; exact fun z => by cases z
    | some x => rw [split2 (a := x.1) (r := x.2) q]; exact fun z => by cases z
/-- a text that the law may meet -/
def tx (n : Nat) (l : Cs) : Prop := l.length ≤ n ∧ ∀ c ∈ l, c < 128
theorem tx.le {n m : Nat} {l : Cs} (h : tx n l) (e : n ≤ m) : tx m l := ⟨Nat.le_trans h.1 e, h.2⟩
theorem tx.sm {n : Nat} {z : Str} (h : tx n (cs z)) : Sm z := sm_of (List.all_eq_true.mpr fun c hc => decide_eq_true (h.2 c hc))
theorem tx.part {n : Nat} {y l p : Cs} (h : tx n l) (hp : p ∈ partsC y l) : tx n p := by
  obtain ⟨h1, h2⟩ := split_sub _ _ p hp
  exact ⟨Nat.le_trans h1 h.1, fun c hc => h.2 c (h2 c hc)⟩
theorem tx.sub {n : Nat} {l p : Cs} (h : tx n l) (hp : p.Sublist l) : tx n p := ⟨Nat.le_trans hp.length_le h.1, fun c hc => h.2 c (hp.subset hc)⟩
theorem parts_ne (y l : Cs) : partsC y l ≠ [] := split_ne _ _
theorem parts_many {y : Cs} (hy : 1 ≤ y.length) (l : Cs) : (partsC y l).length ≤ l.length + 1 := split_many hy _ _
theorem split_D {n : Nat} {x y : Str} (hx : tx n (cs x)) (hy : Sm y) (h0 : cs y ≠ []) : (Txt.split x y).map PyData.str = (partsC (cs y) (cs x)).map strD := by
  have e := split_eq hx.sm hy h0
  have e2 : partsC (cs y) (cs x) = (Txt.split x y).map cs := e.symm
  rw [e2, List.map_map]
  exact List.map_congr_left fun z _ => (strD_cs z).symm
section
variable {X : Cx} {ρ : Rho} {o e : Expr} {pos apos : Pos}
/-- o.split(e), as parts -/
theorem d_parts {z s : Str} {n : Nat} (h : ED X ρ o (.str z)) (h2 : ED X ρ e (.str s)) (hz : tx n (cs z)) (hn : n ≤ 200000) (h0 : cs s ≠ [] := by decide +kernel) (hS : Sm s := by exact sm_of (by decide +kernel))
    (hs : starEach [e] X.env = (false, eval e X.env) :: starEach [] X.env := by rfl)
    (hbase : attributeBase o "split" X.env (eval o X.env) = eval o X.env := by rfl)
    (hfew : ((backTo pos (starEach [e] X.env)).all (fun x => !x.1) && (backToKw pos (keywordEach [] X.env)).all (fun x => x.1.isSome) && decide ([e].length + ([] : List Keyword).length + (if ([] : List Keyword).isEmpty then 0 else 1) < 30)) = true := by rfl)
    (hline : (apos.endLine == pos.line) = true := by rfl) (hplain : (backTo pos (starEach [] X.env)).any (·.1) = false := by rfl) :
    ED X ρ (.Call (.Attribute o "split" apos) [e] [] pos) (.list ((partsC (cs s) (cs z)).map strD)) := by
  rw [← split_D hz hS h0]
  exact d_split h h2 (Nat.le_trans hz.1 hn) (by
    cases q : s.length with
    | zero => exact absurd (List.length_eq_zero_iff.mp (show (cs s).length = 0 from q)) h0
    | succ k => rfl) hs hbase hfew hline hplain
end
end My

namespace My
open PySem PySem.Spec PyProof.Rows L2
/-! ### data that are a list or a tuple -/
theorem seq_cases {d : PyData} (h : (isTup d || isLst d) = true) : d = .tuple (seqD d) ∨ d = .list (seqD d) := by
  cases d with
  | tuple _ => exact .inl rfl
  | list _ => exact .inr rfl
  | _ => cases h
section
variable {X : Cx} {ρ : Rho} {e iter elt : Expr} {d : PyData} {ds : List PyData} {pos p p1 p2 pt pc : Pos} {scope : Scope} {x : Str} {o : Out} {body : List Stmt}
theorem d_lenQ (hm : X.mg "len" = none) (h : ED X ρ e d) (hd : (isTup d || isLst d) = true) (hg : Gl X "len" := by rfl) (he : starEach [e] X.env = (false, eval e X.env) :: starEach [] X.env := by rfl) : ED X ρ (.Call (.Name "len" p) [e] [] pos) (.int (seqD d).length) := by
  rcases seq_cases hd with q | q
  · exact d_len hm (h.cast q) hg he
  · exact d_lenL hm (h.cast q) hg he
theorem d_lcQ {n : Nat} (j : Nat) (f : PyData → PyData) (hN : X.N.Nodup) (okb : BlkOk X.N X.env.scope scope [(x, j)]) (h : ED X ρ iter d) (hd : (isTup d || isLst d) = true) (l : (seqD d).length ≤ 200000) (hel : ∀ y ∈ seqD d, BD X scope (ρ.set j (some y)) elt (f y))
    (hg : ∀ (s : Shared) (H : Hp) (C : Addr) (cl : List (Str × Addr)) (fp : List Addr), PG (X.blk s H scope (compEnvC scope cl C X.env) fp) (.Name x pt) (gName j))
    (hc : X.calm = true := by rfl) (hs : ∀ z, foldedSetIterable iter X.env z = pure z := by intro _; rfl) : ED X ρ (.ListComp elt [⟨.Name x pt, iter, [], 0⟩] scope pos) (.list ((seqD d).map f)) := by
  rcases seq_cases hd with q | q
  · exact d_lcT (n := n) j f hN okb (h.cast q) l hel hg hc hs
  · exact d_lcL (n := n) j f hN okb (h.cast q) l hel hg hc hs
theorem d_allQ (j : Nat) (g : PyData → Bool) (hm : X.mg "all" = none) (hN : X.N.Nodup) (okb : BlkOk X.N X.env.scope scope [(x, j)]) (h : ED X ρ iter d) (hd : (isTup d || isLst d) = true) (l : (seqD d).length ≤ 200000) (hel : ∀ y ∈ seqD d, BD X scope (ρ.set j (some y)) elt (.bool (g y)))
    (hg : ∀ (s : Shared) (H : Hp) (C : Addr) (cl : List (Str × Addr)) (fp : List Addr), PG (X.blk s H scope (compEnvC scope cl C X.env) fp) (.Name x pt) (gName j))
    (hgl : Gl X "all" := by rfl) (hc : X.calm = true := by rfl) (hs : ∀ z, foldedSetIterable iter X.env z = pure z := by intro _; rfl)
    (he : starEach [.ListComp elt [⟨.Name x pt, iter, [], 0⟩] scope pc] X.env = (false, eval (.ListComp elt [⟨.Name x pt, iter, [], 0⟩] scope pc) X.env) :: starEach [] X.env := by rfl) :
    ED X ρ (.Call (.Name "all" p) [.ListComp elt [⟨.Name x pt, iter, [], 0⟩] scope pc] [] pos) (.bool ((seqD d).all g)) := by
  have h1 := d_all hm ((d_lcQ (pos := pc) (n := 0) j (fun y => .bool (g y)) hN okb h hd l hel hg hc hs).cast (by rw [map_bool])) hgl hc he (p := p) (pos := pos)
  exact h1.cast (by rw [List.all_map]; rfl)
theorem sd_forL (j : Nat) (h : ED X ρ iter (.list ds)) (hf : ForD X j body ds ρ o) (hg : PG X (.Name x pt) (gName j)) (hp : PassesOwn (model X.prog X.w) X.A X.env X.xe) (hc : X.calm = true := by rfl)
    (hs : ∀ x, foldedSetIterable iter X.env x = pure x := by intro _; rfl) : SD X ρ (.For (.Name x pt) iter body [] pos) o := fun S σ H D sl q => by
  refine s_for (pi_list pE) hg (h S σ H _ sl fun v H1 s1 g1 => ?_) hp hc hs
  obtain ⟨a, xs, rfl, ha, hds, sq⟩ := g1.seqL (K := X.K)
  refine ⟨a, rfl, ⟨xs, sq⟩, for_list (xs := xs) (fun i σ' H' => ∃ ρ', Same H1 H' ∧ SL S H' σ' ρ' ∧ ForD X j body (ds.drop i) ρ' o) ⟨ρ, Same.refl _, sl.same s1, hf⟩ (fun i σ' H' _ ⟨_, s2, _⟩ => sqL_same s2 sq) ?_ ?_⟩
  · rintro i y σ' H' hi ⟨ρ', s2, sl2, fd⟩
    obtain ⟨d, hd, hy⟩ := hds.get hi
    have lt : i < ds.length := (List.getElem?_eq_some_iff.mp hd).1
    have e : ds.drop i = d :: ds.drop (i + 1) := by
      rw [List.drop_eq_getElem_cons lt]
      rw [List.getElem?_eq_getElem lt] at hd
      rw [Option.some.inj hd]
    rw [e] at fd
    have sl3 := sl2.set (i := j) (hy.same s2)
    cases fd with
    | next hb r => exact hb S _ H' _ sl3 fun σ4 H4 s4 sl4 => ⟨_, s2.trans s4, sl4, r⟩
    | ret hb => exact hb S _ H' _ sl3 fun v H4 s4 g4 => q v H4 (s1.trans (s2.trans s4)) g4
  · rintro σ' H' ⟨ρ', s2, sl2, fd⟩
    rw [hds.length, List.drop_length] at fd
    cases fd
    exact q σ' H' (s1.trans s2) sl2
theorem sd_forQ (j : Nat) (h : ED X ρ iter d) (hd : (isTup d || isLst d) = true) (hf : ForD X j body (seqD d) ρ o) (hg : PG X (.Name x pt) (gName j)) (hp : PassesOwn (model X.prog X.w) X.A X.env X.xe) (hc : X.calm = true := by rfl)
    (hs : ∀ x, foldedSetIterable iter X.env x = pure x := by intro _; rfl) : SD X ρ (.For (.Name x pt) iter body [] pos) o := by
  rcases seq_cases hd with q | q
  · exact sd_forT j (h.cast q) hf hg hp hc hs
  · exact sd_forL j (h.cast q) hf hg hp hc hs
end
/-- a text in a list or tuple of texts -/
theorem o_inQ {X : Cx} : OpR X (compareOp .In) (rP fun d e b => ∃ (z : Str) (zs : List Str), d = .str z ∧ (isTup e || isLst e) = true ∧ seqD e = zs.map PyData.str ∧ b = decide (z ∈ zs)) := fun pins s σ H x y v u Q I rx ry ⟨S, d, e, b, g1, g2, ⟨z, zs, e1, e2, e3, e4⟩, q⟩ => by
  subst e1 e4
  cases g1
  obtain ⟨a, xs, rfl, gs, hq⟩ := g2.seqs e2
  rw [e3] at gs
  have exs := gs.unstr
  subst exs
  refine op_in_seq pins s σ H _ _ v u Q I rx ry ⟨a, zs.map V.str, rfl, ?_, rfl, flat_strs' zs, ?_⟩
  · rcases hq with ⟨_, hq⟩ | ⟨_, hq⟩
    · exact .inr (.inl (.inl hq))
    · exact .inl (.inl (.inl hq))
  · show Q (.bl (inV (.str z) (zs.map V.str))) H
    rw [inV_strs]
    exact q
theorem o_notInQ {X : Cx} : OpR X (compareOp .NotIn) (rP fun d e b => ∃ (z : Str) (zs : List Str), d = .str z ∧ (isTup e || isLst e) = true ∧ seqD e = zs.map PyData.str ∧ b = !decide (z ∈ zs)) := fun pins s σ H x y v u Q I rx ry ⟨S, d, e, b, g1, g2, ⟨z, zs, e1, e2, e3, e4⟩, q⟩ => by
  subst e1 e4
  cases g1
  obtain ⟨a, xs, rfl, gs, hq⟩ := g2.seqs e2
  rw [e3] at gs
  have exs := gs.unstr
  subst exs
  refine op_notIn_seq pins s σ H _ _ v u Q I rx ry ⟨a, zs.map V.str, rfl, ?_, rfl, flat_strs' zs, ?_⟩
  · rcases hq with ⟨_, hq⟩ | ⟨_, hq⟩
    · exact .inr (.inl (.inl hq))
    · exact .inl (.inl (.inl hq))
  · show Q (.bl (!inV (.str z) (zs.map V.str))) H
    rw [inV_strs]
    exact q
/-! data without lists -/
mutual
def tupOnly : PyData → Bool
  | .list _ => false
  | .dict _ => false
  | .tuple ds => tupOnlys ds
  | _ => true
def tupOnlys : List PyData → Bool
  | [] => true
  | d :: ds => tupOnly d && tupOnlys ds
end
mutual
theorem DG.toDT {S : Addr → Prop} {H : Hp} : ∀ {v : V} {d : PyData}, DG S H v d → tupOnly d = true → DT H v d
  | _, _, .non, _ => .non
  | _, _, .bl b, _ => .bl b
  | _, _, .int i, _ => .int i
  | _, _, .str x, _ => .str x
  | _, _, .tup h hs, n => .tup h (DGs.toDT hs (by simpa [tupOnly] using n))
  | _, _, .lst h _ hs, n => by simp [tupOnly] at n
  | _, _, .dct h _ hs, n => by simp [tupOnly] at n
theorem DGs.toDT {S : Addr → Prop} {H : Hp} : ∀ {vs : List V} {ds : List PyData}, DGs S H vs ds → tupOnlys ds = true → DTs H vs ds
  | _, _, .nil, _ => .nil
  | _, _, .cons h hs, n => by
    rw [tupOnlys, Bool.and_eq_true] at n
    exact .cons (DG.toDT h n.1) (DGs.toDT hs n.2)
end
end My

namespace K02
open PySem PySem.Spec PyProof.Rows L2 My


abbrev sTupOf : Stmt := top 5
abbrev sPair : Stmt := top 6
abbrev sDiff : Stmt := top 7
abbrev sName : Stmt := top 13
abbrev sTypes : Stmt := top 17
abbrev sCasts : Stmt := top 18
abbrev sCast : Stmt := top 19
structure Bf (w : World) (K : PySem.W.Frag) (mg : Str → Option Value) : Prop where
  len : mg "len" = none
  isi : mg "isinstance" = none
  str : mg "str" = none
  tuple : mg "tuple" = none
  list : mg "list" = none
  all : mg "all" = none
  set : mg "set" = none
  sorted : mg "sorted" = none
  most : ∃ t, mg "MOST_LETTERS" = some (.int 8 t)
  mTypes : ∃ t, mg "MOST_TYPES" = some (.int 4 t)
  resv : ∃ a, mg "RESERVED" = some (.ref a) ∧ KSt w K a resv
/-! ### casts and types, as data -/
def prD (p : Str × Str) : PyData := .tuple [.str p.1, .str p.2]
def isSq (d : PyData) : Bool := isTup d || isLst d
def zsOf (d : PyData) : List Str := (seqD d).map My.strOf
def pr (x : PyData) : Str × Str := (My.strOf (at' x 0), My.strOf (at' x 1))
def castB (zs : List Str) (x : PyData) : Bool := tupN x 2 && (decide ((pr x).1 ∈ zs) && (decide ((pr x).2 ∈ zs) && !decide ((pr x).1 = (pr x).2)))
def typB (d : PyData) : Bool := isSq d && (tupD 1 4 namD (.tuple (seqD d)) && decide (zsOf d).Nodup)
def casB (zs : List Str) (c : PyData) : Bool := isSq c && ((seqD c).all (castB zs) && decide ((seqD c).map pr).Nodup)
def okStep (x : PyData) : Prop := okS x = true ∧ (tupN x 2 = true → ∃ p, x = prD p)
def okSteps (c : PyData) : Prop := okS c = true ∧ (seqD c).length ≤ 60 ∧ ∀ x ∈ seqD c, okStep x
theorem pr_prD (p : Str × Str) : pr (prD p) = p := rfl
theorem names_strs {ds : List PyData} (h : ∀ d ∈ ds, namD d = true) : ds = (ds.map My.strOf).map PyData.str := by
  rw [List.map_map]
  conv => lhs; rw [← List.map_id ds]
  exact List.map_congr_left fun d m => nam_str (h d m)
theorem okS_seq {d : PyData} (h : okS d = true) : okS (.tuple (seqD d)) = true := by
  cases d with
  | tuple ds => exact h
  | list ds => exact h
  | _ => show okS (.tuple []) = true; decide
theorem typB_iff {d : PyData} (h : typB d = true) : isSq d = true ∧ seqD d = (zsOf d).map PyData.str ∧ 1 ≤ (zsOf d).length ∧ (zsOf d).length ≤ 4 ∧ (∀ z ∈ zsOf d, namD (.str z) = true) ∧ (zsOf d).Nodup := by
  unfold typB at h
  rw [Bool.and_eq_true, Bool.and_eq_true, decide_eq_true_eq] at h
  obtain ⟨h1, h2, h3⟩ := h
  obtain ⟨_, l1, l2, al⟩ := tupD_els h2
  have al' : ∀ x ∈ seqD d, namD x = true := al
  have l1' : (1 : Int) ≤ (seqD d).length := l1
  have l2' : ((seqD d).length : Int) ≤ 4 := l2
  refine ⟨h1, names_strs al', ?_, ?_, fun z hz => ?_, h3⟩
  · unfold zsOf; rw [List.length_map]; omega
  · unfold zsOf; rw [List.length_map]; omega
  · obtain ⟨x, hx, rfl⟩ := List.mem_map.mp hz
    rw [← nam_str (al' x hx)]
    exact al' x hx
theorem pairs_of {zs : List Str} {ds : List PyData} (h : ∀ x ∈ ds, okStep x) (c : ds.all (castB zs) = true) : ds = (ds.map pr).map prD ∧ ∀ p ∈ ds.map pr, p.1 ∈ zs ∧ p.2 ∈ zs ∧ p.1 ≠ p.2 := by
  have one : ∀ x ∈ ds, x = prD (pr x) ∧ (pr x).1 ∈ zs ∧ (pr x).2 ∈ zs ∧ (pr x).1 ≠ (pr x).2 := fun x m => by
    have q := List.all_eq_true.mp c x m
    unfold castB at q
    simp only [Bool.and_eq_true, decide_eq_true_eq, Bool.not_eq_true', decide_eq_false_iff_not] at q
    obtain ⟨q1, q2, q3, q4⟩ := q
    obtain ⟨p, e⟩ := (h x m).2 q1
    refine ⟨?_, q2, q3, q4⟩
    rw [e, pr_prD]
  refine ⟨?_, fun p hp => ?_⟩
  · rw [List.map_map]
    conv => lhs; rw [← List.map_id ds]
    exact List.map_congr_left fun x m => (one x m).1
  · obtain ⟨x, m, rfl⟩ := List.mem_map.mp hp
    exact (one x m).2
/-- pairs of texts as keys -/
def prK (p : Str × Str) : List Key := [.inr p.1, .inr p.2]
theorem prK_inj {p q : Str × Str} (h : prK p = prK q) : p = q := by
  unfold prK at h
  injection h with h1 h2
  injection h2 with h2 _
  injection h1 with h1
  injection h2 with h2
  exact Prod.ext h1 h2
theorem nodup_prK {ps : List (Str × Str)} : (ps.map prK).Nodup ↔ ps.Nodup := by
  constructor
  · exact fun h => nodup_of_map h
  · exact fun h => List.pairwise_map.mpr (h.imp fun ne e => ne (prK_inj e))
theorem dgs_pairs {S : Addr → Prop} {H : Hp} : ∀ {ps : List (Str × Str)} {xs : List V}, DGs S H xs (ps.map prD) → ∃ kas : List (Addr × List Key), xs = kas.map (fun e => V.ref e.1) ∧ kas.map (·.2) = ps.map prK ∧ ∀ e ∈ kas, H e.1 = some (.tup (e.2.map kV))
  | [], _, .nil => ⟨[], rfl, rfl, fun e m => by cases m⟩
  | p :: ps, _, .cons g gs => by
    obtain ⟨kas, e1, e2, e3⟩ := dgs_pairs gs
    have g' : DG S H _ (.tuple [.str p.1, .str p.2]) := g
    cases g' with
    | @tup a xs _ ha hs =>
      cases hs with
      | cons h1 r => cases r with
        | cons h2 r =>
          cases r
          cases h1
          cases h2
          refine ⟨(a, prK p) :: kas, by rw [e1]; rfl, by rw [List.map_cons, List.map_cons, e2], fun e m => ?_⟩
          rcases List.mem_cons.mp m with rfl | m
          · exact ha
          · exact e3 e m
theorem dgs_ksq {K : PySem.W.Frag} {S : Addr → Prop} {H : Hp} {a : Addr} {xs : List V} {ps : List (Str × Str)} (g : DGs S H xs (ps.map prD)) (h : H a = some (.tup xs) ∨ H a = some (.lst xs)) (l : ps.length < 64) : ∃ kas, KSq K H a kas ∧ kas.map (·.2) = ps.map prK := by
  obtain ⟨kas, rfl, e2, e3⟩ := dgs_pairs g
  have lk : kas.length = ps.length := by have := congrArg List.length e2; rwa [List.length_map, List.length_map] at this
  exact ⟨kas, ⟨h.elim (fun q => .inr (.inl (.inl q))) fun q => .inl (.inl (.inl q)), fun e m => .inl (.inl (e3 e m)), by omega⟩, e2⟩
section
variable {P : Program} {w : World} {K : PySem.W.Frag} {mg : Str → Option Value} {base : Heap}
theorem scTupOf : FnScope ["thing", "least", "most", "is_part", "part"] ["thing", "least", "most", "is_part"] (defScope sTupOf) := ⟨rfl, rfl, rfl, by decide +kernel, rfl, by decide +kernel, by decide +kernel⟩
theorem ok_tupOf {k : Nat} {f : Addr} {fd : FuncData} (F : Fun K "is_tuple_of" "is_tuple_of" sTupOf f fd) (G : Bf w K mg) : FnOk P w K mg base CX0 (k + 1) f fd ["thing", "least", "most", "is_part"] (spTO P w K mg base k) := by
  refine Fun.okW F scTupOf (fun vs H Q E h => by obtain ⟨a, b, c, d, e, g, i, rfl, _⟩ := h; rfl) (fun cdv B out s H vs Q E hr h => ?_)
  obtain ⟨S, v, d, lo, hi, g, φ, rfl, ⟨gd, ps, Fg, kg, bg⟩, hhi, hd, hok, q⟩ := h
  -- not a tuple
  refine l_cons (WS.cut (P := fun σ H2 => σ = [some v, some (.int lo), some (.int hi), some (.ref g), none] ∧ H2 = H ∧ ∃ ds, d = .tuple ds ∧ lo ≤ ds.length ∧ (ds.length : Int) ≤ hi) (s_if (t_w (w_or (t_not (t_val (e_isi G.isi G.tuple PyProof.Rows.boot_tuple (e_var 0 rfl ⟨tyD d, isTup d, hd.ty, kit_tup d, isTup d, rfl, fun e => ?_, fun e => ?_⟩)))))) ) ?_)
  · have nt : isTup d = false := by simpa using e
    refine ⟨fun _ => ?_, fun e => Bool.noConfusion e⟩
    have e2 : tupD lo hi φ d = false := by cases d <;> first | rfl | cases nt
    exact l_one (s_ret (e_bl (by have := q H (Same.refl _); rw [e2] at this; exact this)))
  · have nt : isTup d = true := by simpa using e
    cases hd with
    | tup h hs =>
      rename_i a xs ds
      have lx := hs.length
      refine w_or1 (t_not (t_btw (e_var 1 rfl (e_len G.len (e_var 0 rfl ⟨a, xs, rfl, .inr (.inl (.inl h)), lo, _, rfl, rfl, fun h1 => e_var 2 rfl ⟨hi, rfl, ?_⟩, fun h1 => ?_⟩)))))
      · by_cases h2 : (xs.length : Int) ≤ hi
        · rw [decide_eq_true h2]
          exact ⟨fun e => Bool.noConfusion e, fun _ => l_nil ⟨rfl, rfl, ds, rfl, by omega, by omega⟩⟩
        · rw [decide_eq_false h2]
          refine ⟨fun _ => ?_, fun e => Bool.noConfusion e⟩
          have e2 : tupD lo hi φ (.tuple ds) = false := by
            show (_ && decide ((ds.length : Int) ≤ hi) && _) = false
            rw [← lx, decide_eq_false h2]; simp
          exact l_one (s_ret (e_bl (by have := q H (Same.refl _); rw [e2] at this; exact this)))
      · refine ⟨fun _ => ?_, fun e => Bool.noConfusion e⟩
        have e2 : tupD lo hi φ (.tuple ds) = false := by
          show (decide (lo ≤ (ds.length : Int)) && _ && _) = false
          rw [← lx, decide_eq_false h1]; simp
        exact l_one (s_ret (e_bl (by have := q H (Same.refl _); rw [e2] at this; exact this)))
    | _ => cases nt
  rintro σ H2 ⟨rfl, rfl, ds, rfl, h1, h2⟩
  cases hd with
  | tup h hs =>
    rename_i a xs
    have ok2 := okS_t hok
    have e2 : tupD lo hi φ (.tuple ds) = ds.all φ := by
      show (decide (lo ≤ (ds.length : Int)) && decide ((ds.length : Int) ≤ hi) && ds.all φ) = _
      rw [decide_eq_true h1, decide_eq_true h2]; rfl
    rw [e2] at q
    refine l_cons (s_for (pi_tup pE) (pg_name (i := 4) scTupOf.nd rfl (.inl rfl)) (e_var 0 rfl ⟨a, rfl, ⟨xs, .inl (.inl h)⟩, for_tup (xs := xs) (fun i σ' H' => Same H2 H' ∧ (∃ u, σ' = [some (.ref a), some (.int lo), some (.int hi), some (.ref g), u]) ∧ (ds.take i).all φ = true) ⟨Same.refl _, ⟨none, rfl⟩, rfl⟩ (fun i σ' H' _ p => .inl (.inl (p.1 _ _ h))) ?_ ?_⟩) PassesOwn.never)
    · rintro i y σ' H' hy ⟨s2, ⟨u, rfl⟩, al⟩
      obtain ⟨d, hd, gy⟩ := hs.get hy
      have gy' := gy.same s2
      have lt : i < ds.length := (List.getElem?_eq_some_iff.mp hd).1
      have e3 : ds[i] = d := by rw [List.getElem?_eq_getElem lt] at hd; exact Option.some.inj hd
      show WL _ _ _ [some (.ref a), some (.int lo), some (.int hi), some (.ref g), some y] H'
      refine l_one (s_if (t_not (t_val (toE (pe_callL (i := 3) Fg hr rfl ?hv kg bg .nil pass0 pA) ⟨rfl, a_cons (e_var 4 rfl (a_nil ⟨S, y, d, rfl, gy', ok2 d (List.mem_of_getElem? hd), fun H4 s4 => ⟨φ d, rfl, fun e => ?_, fun e => ?_⟩⟩))⟩))))
      case hv => first | exact Or.inl rfl | exact Or.inr (Or.inl rfl) | exact Or.inr (Or.inr rfl)
      · have nd : φ d = false := nb e
        have al0 : ds.all φ = false := by
          cases z : ds.all φ with
          | false => rfl
          | true => rw [List.all_eq_true.mp z d (List.mem_of_getElem? hd)] at nd; cases nd
        rw [al0] at q
        exact l_one (s_ret (e_bl (q H4 (s2.trans s4))))
      · have nd : φ d = true := nb' e
        refine l_nil ⟨s2.trans s4, ⟨some y, rfl⟩, ?_⟩
        rw [List.take_succ_eq_append_getElem lt, List.all_append, al, e3]
        show (true && (φ d && true)) = true
        rw [nd]; rfl
    · rintro σ' H' ⟨s2, ⟨u, rfl⟩, al⟩
      rw [hs.length, List.take_length] at al
      rw [al] at q
      exact l_one (s_ret (e_bl (q H' s2)))
theorem scName : FnScope ["thing"] ["thing"] (defScope sName) := ⟨rfl, rfl, rfl, by decide +kernel, rfl, by decide +kernel, by decide +kernel⟩
theorem ok_name {f : Addr} {fd : FuncData} (F : Fun K "is_name" "is_name" sName f fd) (G : Bf w K mg) : FnOk P w K mg base CX0 2 f fd ["thing"] (spB namD) := by
  refine Fun.ok1 F scName fun cdv B out s H E d hr hok => ?_
  refine ld_ifret (td_w (wd_strM ⟨G.isi, G.str, G.len⟩ G.most (d_var 0) (d_var 0) hok)) (fun e => ?_) fun e => ?_
  · have e1 : namD d = false := by
      have e' := nb e
      cases d with
      | str z =>
        have e2 : decide (z.length ≤ 8) = false := e'
        show (decide (1 ≤ z.length) && decide (z.length ≤ 8) && z.cps.toList.all letB && _) = false
        rw [e2, Bool.and_false, Bool.false_and, Bool.false_and]
      | _ => rfl
    exact LD.cast (ld_end (sd_ret (d_bl false))) (by rw [e1])
  · have e' := nb' e
    rw [Bool.and_eq_true] at e'
    obtain ⟨z, rfl⟩ : ∃ z, d = .str z := ⟨_, isStr_eq e'.1⟩
    have e8 : decide (z.length ≤ 8) = true := e'.2
    refine LD.cast (ld_end (sd_ret (d_and (r := .none) (d_isascii (z := z) (d_var 0)) fun _ => d_and (r := .none) (d_isalpha (z := z) (d_var 0)) fun _ => d_and (r := .none) (d_islower (z := z) (d_var 0)) fun _ => d_one (d_notInK (z := z) G.resv (d_var 0))))) ?_
    show PyData.bool _ = .bool (decide (1 ≤ z.length) && decide (z.length ≤ 8) && z.cps.toList.all letB && !decide (z ∈ My.resv))
    have e3 := low_eq z
    have e4 : (Txt.isascii z && (Txt.isalpha z && (Txt.islower z && !decide (z ∈ My.resv)))) = ((Txt.isascii z && (Txt.isalpha z && Txt.islower z)) && !decide (z ∈ My.resv)) := by
      cases Txt.isascii z <;> cases Txt.isalpha z <;> rfl
    rw [e4, e3, e8, Bool.and_true]
    rfl
theorem scPair : FnScope ["thing"] ["thing"] (defScope sPair) := ⟨rfl, rfl, rfl, by decide +kernel, rfl, by decide +kernel, by decide +kernel⟩
theorem ok_pair {f : Addr} {fd : FuncData} (F : Fun K "is_pair" "is_pair" sPair f fd) (G : Bf w K mg) : FnOk P w K mg base CX0 1 f fd ["thing"] (spB fun d => tupN d 2) := by
  refine Fun.ok1 F scPair fun cdv B out s H E d hr hok => ?_
  refine LD.cast (ld_end (sd_ret (d_and (r := d) (k := isTup d) (m := decide ((els d).length = 2)) (d_isTup G.isi G.tuple (d_var 0)) fun h => d_one ?_))) rfl
  refine (d_cmp o_eqI (d_len (ds := els d) G.len ((d_var 0).cast (els_tup h))) (d_int 2) ⟨_, _, rfl, rfl, (dec_cast _ 2).symm⟩)
def spDiffK (K : PySem.W.Frag) : Sp := fun vs H Q _ => ∃ a kas, vs = [.ref a] ∧ KSq K H a kas ∧ Q (.bl (decide (kas.map (·.2)).Nodup)) H
theorem scDiff : FnScope ["things"] ["things"] (defScope sDiff) := ⟨rfl, rfl, rfl, by decide +kernel, rfl, by decide +kernel, by decide +kernel⟩
theorem ok_diff2 {f : Addr} {fd : FuncData} (F : Fun K "are_different" "are_different" sDiff f fd) (G : Bf w K mg) : FnOk P w K mg base CX0 1 f fd ["things"] (fun vs H Q E => spDiff K vs H Q E ∨ spDiffK K vs H Q E) := by
  refine Fun.okW F scDiff (fun vs H Q E h => by rcases h with ⟨a, b, rfl, _⟩ | ⟨a, b, rfl, _⟩ <;> rfl) (fun cdv B out s H vs Q E hr h => ?_)
  rcases h with h | h
  · obtain ⟨a, xs, rfl, hs, hl, q⟩ := h
    refine l_one (s_ret (e_cmp op_eq (e_lenSet G.len G.set (e_var 0 rfl ⟨a, xs, rfl, hs, hl, e_len G.len (e_var 0 rfl ⟨a, _, rfl, hs, rfl, ?_⟩)⟩))))
    have e := cnt_nodup xs xs.length (Nat.le_refl _)
    rw [List.take_length] at e
    have e2 : decide (V.int (cnt xs xs.length : Nat) = V.int ((xs.map V.str).length : Nat)) = decide xs.Nodup := by
      rw [List.length_map]
      apply Bool.eq_iff_iff.mpr
      rw [decide_eq_true_eq, decide_eq_true_eq, ← e]
      constructor
      · intro h; injection h with h; omega
      · intro h; rw [h]
    rw [e2]
    exact q
  · obtain ⟨a, kas, rfl, hs, q⟩ := h
    refine l_one (s_ret (e_cmp op_eq (e_lenKSet G.len G.set hr.units (e_var 0 rfl ⟨a, kas, rfl, hs, fun m hm => e_len G.len (e_var 0 rfl ⟨a, _, rfl, hs.1, rfl, ?_⟩)⟩))))
    have e2 : decide (V.int (m : Int) = V.int ((kas.map fun e => V.ref e.1).length : Nat)) = decide (kas.map (·.2)).Nodup := by
      rw [List.length_map]
      apply Bool.eq_iff_iff.mpr
      rw [decide_eq_true_eq, decide_eq_true_eq, ← hm]
      constructor
      · intro h; injection h with h; omega
      · intro h; rw [h]
    rw [e2]
    exact q
theorem scTypes : FnScope ["thing"] ["thing"] (defScope sTypes) := ⟨rfl, rfl, rfl, by decide +kernel, rfl, by decide +kernel, by decide +kernel⟩
theorem ok_types {f : Addr} {fd : FuncData} (F : Fun K "are_types" "are_types" sTypes f fd) (G : Bf w K mg) (cN : CalN P w K mg base 2 "is_name" (spB namD)) (cT : CalN P w K mg base 3 "is_tuple_of" (spTO P w K mg base 2)) (cD : CalN P w K mg base 1 "are_different" (spDiff K)) :
    FnOk P w K mg base CX0 4 f fd ["thing"] (spB typB) := by
  refine Fun.ok1 F scTypes fun cdv B out s H E d hr hok => ?_
  refine ld_ifret (k := !isSq d) (td_not (td_val (d_isi2 G.isi G.tuple G.list PyProof.Rows.boot_tuple PyProof.Rows.boot_list (d_var 0) (kit_tl d)))) (fun h => ?_) fun h => ?_
  · exact LD.cast (ld_end (sd_ret (d_bl false))) (by unfold typB; rw [nb h]; rfl)
  have hs : isSq d = true := nb' h
  refine LD.cast (ld_end (sd_ret (d_and (r := d) (m := decide (zsOf d).Nodup) (d_tupOf cT cN hr (by decide) (d_tupleD G.tuple (d_var 0) hs) (d_int 1) (d_gint G.mTypes) (okS_seq hok) (by decide)) fun e => d_one ?_))) ?_
  · obtain ⟨_, l1, l2, al⟩ := tupD_els e
    have en : seqD d = (zsOf d).map PyData.str := names_strs al
    refine d_diff cD hr (by decide) ?_ ?_
    · rcases seq_cases hs with q | q
      · exact .inr ((d_var 0).cast (by rw [← en]; exact q))
      · exact .inl ((d_var 0).cast (by rw [← en]; exact q))
    · have l2' : ((seqD d).length : Int) ≤ 4 := l2
      unfold zsOf
      rw [List.length_map]
      omega
  · unfold typB
    rw [hs]; rfl
/-- is_cast of a thing and of types that are texts -/
def RCast (ds : List PyData) (r : PyData) : Prop := ∃ x t zs, ds = [x, t] ∧ okStep x ∧ isSq t = true ∧ seqD t = zs.map PyData.str ∧ r = .bool (castB zs x)
theorem scCast : FnScope ["thing", "types"] ["thing", "types"] (defScope sCast) := ⟨rfl, rfl, rfl, by decide +kernel, rfl, by decide +kernel, by decide +kernel⟩
theorem ok_cast {f : Addr} {fd : FuncData} (F : Fun K "is_cast" "is_cast" sCast f fd) (G : Bf w K mg) (cP : CalN P w K mg base 1 "is_pair" (spB fun d => tupN d 2)) : FnOk P w K mg base CX0 2 f fd ["thing", "types"] (spR RCast) := by
  refine Fun.okR F scCast (fun ds r h => by obtain ⟨x, t, zs, rfl, _⟩ := h; rfl) fun cdv B out s H E ds r hr h => ?_
  obtain ⟨x, t, zs, rfl, ⟨ok, hp⟩, ht, et, rfl⟩ := h
  unfold castB
  refine ld_end (sd_ret (d_and (r := x) (k := tupN x 2) (d_fn (f := fun d => tupN d 2) (d := x) cP hr (Nat.le_refl _) (d_var 0) ok) fun h2 => ?_))
  obtain ⟨p, rfl⟩ := hp h2
  refine d_and (r := .none) (d_cmp o_inQ (d_at (n := 0) (d_var 0) rfl (by show _ < 2; decide)) (d_var 1) ⟨p.1, zs, rfl, ht, et, rfl⟩) fun _ => d_and (r := .none) (d_cmp o_inQ (d_at (n := 0) (d_var 0) rfl (by show _ < 2; decide)) (d_var 1) ⟨p.2, zs, rfl, ht, et, rfl⟩) fun _ => d_one ?_
  refine (d_cmp (o_neS hr.units) (d_at (n := 0) (d_var 0) rfl (by show _ < 2; decide)) (d_at (n := 0) (d_var 0) rfl (by show _ < 2; decide)) ⟨p.2, rfl, rfl⟩)
end
end K02

namespace K02
open PySem PySem.Spec PyProof.Rows L2 My


abbrev sHInit : Stmt := inClass (top 9) 0
abbrev sCInit : Stmt := inClass (top 16) 0
abbrev sNextN : Stmt := inClass (top 16) 3
abbrev sAllN : Stmt := inClass (top 16) 4
abbrev sEq : Stmt := inClass (top 16) 5
def RCasts (ds : List PyData) (r : PyData) : Prop := ∃ c t zs, ds = [c, t] ∧ okSteps c ∧ isSq t = true ∧ seqD t = zs.map PyData.str ∧ r = .bool (casB zs c)
abbrev nCasts : List Str := ["thing", "types", "pair"]
section
variable {P : Program} {w : World} {K : PySem.W.Frag} {mg : Str → Option Value} {base : Heap}
theorem scCasts : FnScope nCasts ["thing", "types"] (defScope sCasts) := ⟨rfl, rfl, rfl, by decide +kernel, rfl, by decide +kernel, by decide +kernel⟩
theorem ok_casts {f : Addr} {fd : FuncData} (F : Fun K "are_casts" "are_casts" sCasts f fd) (G : Bf w K mg) (cC : CalN P w K mg base 2 "is_cast" (spR RCast)) (cD : CalN P w K mg base 1 "are_different" (spDiffK K)) : FnOk P w K mg base CX0 3 f fd ["thing", "types"] (spR RCasts) := by
  refine Fun.okR F scCasts (fun ds r h => by obtain ⟨x, t, zs, rfl, _⟩ := h; rfl) fun cdv B out s H E ds r hr h => ?_
  obtain ⟨c, t, zs, rfl, ⟨ok, hl, hp⟩, ht, et, rfl⟩ := h
  refine ld_ifret (k := !isSq c) (td_not (td_val (d_isi2 G.isi G.tuple G.list PyProof.Rows.boot_tuple PyProof.Rows.boot_list (d_var 0) (kit_tl c)))) (fun h => ?_) fun h => ?_
  · exact LD.cast (ld_end (sd_ret (d_bl false))) (by unfold casB; rw [nb h]; rfl)
  have hs : isSq c = true := nb' h
  refine ld_ifret (k := !(seqD c).all (castB zs)) (td_not (td_val (d_allQ 2 (castB zs) G.all scCasts.nd (blkOk_by (N := nCasts) (sc := defScope sCasts) (by decide +kernel)) (d_var 0) hs (by omega) (fun y hy s0 H00 C cl fp => d_callR cC hr (by decide) (ad_cons (d_var 2) (ad_cons (d_var 1) ad_nil)) ⟨y, t, zs, rfl, hp y hy, ht, et, rfl⟩) (fun _ _ _ _ _ => pg_name (i := 2) scCasts.nd rfl (Or.inl rfl))))) (fun h => ?_) fun h => ?_
  · exact LD.cast (ld_end (sd_ret (d_bl false))) (by unfold casB; rw [nb h, Bool.false_and, Bool.and_false])
  have ha := nb' h
  obtain ⟨ep, _⟩ := pairs_of hp ha
  refine LD.cast (d' := .bool (casB zs c)) (ld_end (sd_ret (d := .bool (decide ((seqD c).map pr).Nodup)) fun S σ H Q sl q => ?_)) (by unfold casB; rw [hs, ha]; rfl)
  refine e_c cD hr (by decide) (a_cons (d_var (d := c) 0 rfl rfl (Or.inl rfl) (by decide) (by decide) S σ H _ sl fun v H1 s1 g1 => ?_))
  obtain ⟨a, xs, rfl, gs, hq⟩ := g1.seqs hs
  rw [ep] at gs
  obtain ⟨kas, hk, ek⟩ := dgs_ksq (K := K) gs (hq.imp (fun z => z.2) fun z => z.2) (by rw [List.length_map]; omega)
  refine a_nil ⟨a, kas, rfl, hk, ?_⟩
  have e2 : decide (kas.map (·.2)).Nodup = decide ((seqD c).map pr).Nodup := by rw [ek]; exact decide_eq_decide.mpr nodup_prK
  rw [e2]
  exact q _ H1 s1 (.bl _)
/-! ### what a new catalog holds -/
abbrev hNames : List Str := ["things", "facts", "rights", "rules", "places", "functions", "columns"]
def HoldAt (H : Hp) (CH h : Addr) : Prop := ∃ dx fs, H h = some (.ins CH dx fs) ∧ fs.lookup ("following" : Str) = some (.int 0) ∧ ∀ n ∈ hNames, ∃ e, fs.lookup n = some (.ref e) ∧ H e = some (.dK [])
structure HI (CH dx h : Addr) (H0 H : Hp) (fs : List (Str × V)) (ns : List Str) : Prop where
  at_ : H h = some (.ins CH dx fs)
  keep : ∀ b o, b ≠ h → H0 b = some o → H b = some o
  fol : fs.lookup ("following" : Str) = some (.int 0)
  ds : ∀ n ∈ ns, ∃ e, fs.lookup n = some (.ref e) ∧ H e = some (.dK [])
  len : fs.length ≤ 500 + ns.length
theorem HI.step {CH dx h d : Addr} {H0 H : Hp} {fs : List (Str × V)} {ns : List Str} {n : Str} (I : HI CH dx h H0 H fs ns) (hd : H d = none) (n1 : n ≠ "following") (n2 : n ∉ ns) :
    HI CH dx h H0 (L2.upd (L2.upd H d (.dK [])) h (.ins CH dx (putF n (.ref d) fs))) (putF n (.ref d) fs) (n :: ns) := by
  have ndh : d ≠ h := fun e => by rw [e, I.at_] at hd; cases hd
  have mv : ∀ b o, b ≠ h → H b = some o → (L2.upd (L2.upd H d (.dK [])) h (.ins CH dx (putF n (.ref d) fs))) b = some o := fun b o nb e => by
    rw [upd_ne nb, upd_ne (ne_of_none e hd)]; exact e
  refine ⟨upd_same, fun b o nb e => mv b o nb (I.keep b o nb e), by rw [lookup_putF, if_neg (fun e => n1 e.symm)]; exact I.fol, fun m hm => ?_, ?_⟩
  · by_cases e : m = n
    · subst e
      exact ⟨d, by rw [lookup_putF, if_pos rfl], by rw [upd_ne ndh, upd_same]⟩
    · obtain ⟨x, h1, h2⟩ := I.ds m ((List.mem_cons.mp hm).resolve_left e)
      exact ⟨x, by rw [lookup_putF, if_neg e]; exact h1, mv x _ (fun z => by rw [z, I.at_] at h2; cases h2) h2⟩
  · have := length_putF n (V.ref d) fs
    have := I.len
    rw [List.length_cons]; omega
structure Bh (K : PySem.W.Frag) (CH : Addr) : Prop where
  cl : Cls K CH
  no : ∀ n ∈ (("following" : Str) :: hNames), NoAttr K CH n
def spHold (CH : Addr) : Sp := fun vs H Q _ => ∃ h dx, vs = [.ref h] ∧ H h = some (.ins CH dx []) ∧ ∀ H', (∀ b o, b ≠ h → H b = some o → H' b = some o) → HoldAt H' CH h → Q .non H'
theorem hold_set {X : Cx} {CH dx h : Addr} {H0 H : Hp} {fs : List (Str × V)} {ns : List Str} {n : Str} {l : List Stmt} {D : Ends} {pos pos' : Pos} {p1 p2 : Pos} (G : Bh X.K CH) (I : HI CH dx h H0 H fs ns) (n0 : n ∈ hNames) (n1 : n ≠ "following") (n2 : n ∉ ns) (nl : ns.length ≤ 100)
    (k : ∀ H' fs', HI CH dx h H0 H' fs' (n :: ns) → WL X l D [some (.ref h)] H') (hN : X.N[0]? = some ("self" : Str)) (hv : Vis X.env.scope "self") (hb : attributeBase (.Name "self" p2) n X.env (eval (.Name "self" p2) X.env) = eval (.Name "self" p2) X.env := by rfl)
    (hs : swapsWith (.Dict [] [] p1) (some (.Attribute (.Name "self" p2) n pos')) pos.line X.env = pure false := by rfl) : WL X (.Assign [.Attribute (.Name "self" p2) n pos'] (.Dict [] [] p1) pos :: l) D [some (.ref h)] H :=
  l_cons (s_fld (toE pe_dnewK fun d hd => e_var 0 rfl (by
    have ndh : h ≠ d := fun e => by rw [← e, I.at_] at hd; cases hd
    have := I.len
    exact ⟨h, CH, dx, fs, rfl, by rw [upd_ne ndh]; exact I.at_, G.cl, G.no n (List.mem_cons_of_mem _ n0), by omega, k _ _ (I.step hd n1 n2)⟩) hN hv) hs)
theorem scHInit : FnScope ["self"] ["self"] (defScope sHInit) := ⟨rfl, rfl, rfl, by decide +kernel, rfl, by decide +kernel, by decide +kernel⟩
theorem ok_hinit {CH f : Addr} {fd : FuncData} (F : Fun K "__init__" "Holding.__init__" sHInit f fd) (G : Bh K CH) : FnOk P w K mg base CX0 1 f fd ["self"] (spHold CH) := by
  refine Fun.okW F scHInit (fun vs H Q E h => by obtain ⟨a, b, rfl, _⟩ := h; rfl) (fun cdv B out s H vs Q E hr h => ?_)
  obtain ⟨h, dx, rfl, hh, q⟩ := h
  have I0 : HI CH dx h H (L2.upd H h (.ins CH dx (putF "following" (.int 0) []))) (putF "following" (.int 0) []) [] :=
    ⟨upd_same, fun b o nb e => by rw [upd_ne nb]; exact e, by rw [lookup_putF, if_pos rfl], fun n m => (by cases m), by have := length_putF "following" (V.int 0) []; simp at this ⊢; omega⟩
  refine l_cons (s_fld (e_int (e_var 0 rfl ⟨h, CH, dx, [], rfl, hh, G.cl, G.no _ List.mem_cons_self, by decide, ?_⟩)))
  refine hold_set (n := "things") G I0 (by decide) (by decide) (by decide) (by decide) (fun H1 fs1 I1 => ?_) rfl (.inl rfl)
  refine hold_set (n := "facts") G I1 (by decide) (by decide) (by decide) (by decide) (fun H2 fs2 I2 => ?_) rfl (.inl rfl)
  refine hold_set (n := "rights") G I2 (by decide) (by decide) (by decide) (by decide) (fun H3 fs3 I3 => ?_) rfl (.inl rfl)
  refine hold_set (n := "rules") G I3 (by decide) (by decide) (by decide) (by decide) (fun H4 fs4 I4 => ?_) rfl (.inl rfl)
  refine hold_set (n := "places") G I4 (by decide) (by decide) (by decide) (by decide) (fun H5 fs5 I5 => ?_) rfl (.inl rfl)
  refine hold_set (n := "functions") G I5 (by decide) (by decide) (by decide) (by decide) (fun H6 fs6 I6 => ?_) rfl (.inl rfl)
  refine hold_set (n := "columns") G I6 (by decide) (by decide) (by decide) (by decide) (fun H7 fs7 I7 => ?_) rfl (.inl rfl)
  refine l_nil (q H7 I7.keep ⟨dx, fs7, I7.at_, I7.fol, fun n m => I7.ds n ?_⟩)
  revert n
  decide
end
end K02

namespace K02
open PySem PySem.Spec PyProof.Rows L2 My


def CatAt (C CH : Addr) (H : Hp) (c : Addr) (ts : List Str) (cs : List PyData) : Prop := ∃ dx fs t k h, H c = some (.ins C dx fs) ∧ fs.lookup ("_types" : Str) = some t ∧ DT H t (.tuple (ts.map PyData.str)) ∧ fs.lookup ("_casts" : Str) = some k ∧ DT H k (.tuple cs) ∧
  fs.lookup ("_holding" : Str) = some (.ref h) ∧ HoldAt H CH h
abbrev cNames : List Str := ["_types", "_casts", "_casting", "_holding"]
structure Bc (K : PySem.W.Frag) (mg : Str → Option Value) (C CI : Addr) : Prop where
  cl : Cls K C
  no : ∀ n ∈ cNames, NoAttr K C n
  inv : ErrC K mg "InvalidCatalog" CI
def catB (d1 d2 : PyData) : Bool := typB d1 && casB (zsOf d1) d2
def spCat (C CH CI : Addr) : Sp := fun vs H Q E => ∃ (S : Addr → Prop) (c dx : Addr) (v1 v2 : V) (d1 d2 : PyData), vs = [.ref c, v1, v2] ∧ H c = some (.ins C dx []) ∧ S c ∧ (∀ a, S a → H a ≠ none) ∧ DG S H v1 d1 ∧ DG S H v2 d2 ∧ okS d1 = true ∧ okSteps d2 ∧
  (catB d1 d2 = true → ∀ H', (∀ b o, b ≠ c → H b = some o → H' b = some o) → CatAt C CH H' c (srt (zsOf d1)) (srtD (seqD d2)) → Q .non H') ∧ (catB d1 d2 = false → ∀ H', Same H H' → E (.ref CI) none H')
theorem ed_go {X : Cx} {ρ : Rho} {e : Expr} {d : PyData} {S : Addr → Prop} {σ : L2.St} {H : Hp} {Q : VK} (h : ED X ρ e d) (sl : SL S H σ ρ) (q : ∀ v H', Same H H' → DG S H' v d → Q v H') : WE X e σ H Q := h S σ H Q sl q
theorem ins_tups {H : Hp} {c C dx : Addr} {fs gs : List (Str × V)} (h : H c = some (.ins C dx fs)) : Tup H (L2.upd H c (.ins C dx gs)) := fun b xs e => by rw [upd_ne (fun z => by rw [z, h] at e; cases e)]; exact e
theorem sl_insd {S : Addr → Prop} {H : Hp} {σ : L2.St} {ρ : Rho} {c C dx : Addr} {fs gs : List (Str × V)} (sl : SL S H σ ρ) (hc : S c) (h : H c = some (.ins C dx fs)) : SL S (L2.upd H c (.ins C dx gs)) σ ρ :=
  sl.keep (ins_tups h) (fun a o n e => by rw [upd_ne (show a ≠ c from fun z => n (by rw [z]; exact hc))]; exact e) fun a ha => by
    by_cases e : a = c
    · rw [e, upd_same]; exact fun z => by cases z
    · rw [upd_ne e]; exact sl.dom a ha
/-- what the object keeps while it is made -/
structure Mk1 (C c dx : Addr) (H0 H : Hp) (fs : List (Str × V)) : Prop where
  at_ : H c = some (.ins C dx fs)
  keep : ∀ b o, b ≠ c → H0 b = some o → H b = some o
theorem Mk1.same {C c dx : Addr} {H0 H H' : Hp} {fs : List (Str × V)} (m : Mk1 C c dx H0 H fs) (s : Same H H') : Mk1 C c dx H0 H' fs := ⟨s _ _ m.at_, fun b o n e => s _ _ (m.keep b o n e)⟩
theorem Mk1.put {C c dx : Addr} {H0 H : Hp} {fs gs : List (Str × V)} (m : Mk1 C c dx H0 H fs) : Mk1 C c dx H0 (L2.upd H c (.ins C dx gs)) gs := ⟨upd_same, fun b o n e => by rw [upd_ne n]; exact m.keep b o n e⟩
theorem alike_pr (p q : Str × Str) : PySem.W.alike (prD p) (prD q) = true := by unfold prD; simp [PySem.W.alike, PySem.W.alikeAll]
theorem pairs_ok {ds : List PyData} {ps : List (Str × Str)} (e : ds = ps.map prD) : PySem.W.AllAlike ds ∧ PySem.W.Sortable ds ∧ ∀ x ∈ ds, x.hasDict = false ∧ x.depth ≤ 40 := by
  subst e
  refine ⟨fun d hd d' hd' => ?_, .inl fun d hd => ?_, fun x hx => ?_⟩
  · obtain ⟨p, _, rfl⟩ := List.mem_map.mp hd
    obtain ⟨q, _, rfl⟩ := List.mem_map.mp hd'
    exact alike_pr p q
  · obtain ⟨p, _, rfl⟩ := List.mem_map.mp hd
    exact ⟨_, _, rfl⟩
  · obtain ⟨p, _, rfl⟩ := List.mem_map.mp hx
    unfold prD
    exact ⟨by simp [PyData.hasDict, PyData.hasDictAll], by simp [PyData.depth, PyData.depthAll]⟩
theorem srtD_perm (ds : List PyData) : (srtD ds).Perm ds := List.mergeSort_perm _ _
theorem srtD_pairs (ps : List (Str × Str)) : ∃ qs : List (Str × Str), srtD (ps.map prD) = qs.map prD ∧ qs.length = ps.length := by
  have h : ∀ d ∈ srtD (ps.map prD), d = prD (pr d) := fun d hd => by
    obtain ⟨p, _, rfl⟩ := List.mem_map.mp ((srtD_perm _).mem_iff.mp hd)
    rfl
  refine ⟨(srtD (ps.map prD)).map pr, ?_, ?_⟩
  · rw [List.map_map]
    conv => lhs; rw [← List.map_id (srtD (ps.map prD))]
    exact List.map_congr_left h
  · rw [List.length_map, (srtD_perm _).length_eq, List.length_map]
theorem tupOnly_prs (ps : List (Str × Str)) : tupOnlys (ps.map prD) = true := by
  induction ps with
  | nil => rfl
  | cons p ps ih => rw [List.map_cons, tupOnlys, ih]; rfl
theorem tupOnly_strs (zs : List Str) : tupOnlys (zs.map PyData.str) = true := by
  induction zs with
  | nil => rfl
  | cons p ps ih => rw [List.map_cons, tupOnlys, ih]; rfl
theorem dts_pairs {H : Hp} : ∀ {ps : List (Str × Str)} {xs : List V}, DTs H xs (ps.map prD) → ∀ y ∈ xs, ∃ (b : Addr) (k : List Key), y = .ref b ∧ H b = some (.tup (k.map kV))
  | [], _, .nil, y, m => by cases m
  | p :: ps, _, .cons g gs, y, m => by
    rcases List.mem_cons.mp m with rfl | m
    · have g' : DT H y (.tuple [.str p.1, .str p.2]) := g
      cases g' with
      | @tup a xs _ ha hs =>
        cases hs with
        | cons h1 r => cases r with
          | cons h2 r =>
            cases r
            cases h1
            cases h2
            exact ⟨a, prK p, rfl, ha⟩
    · exact dts_pairs gs y m
/-- the rule for a def with defaults that may raise -/
theorem fund_okXW {P : Program} {w : World} {K : PySem.W.Frag} {mg : Str → Option Value} {base : Heap} {x qual : Str} {st : Stmt} {f : Addr} {fd : FuncData} {dvs : List V} {kws : List (Str × V)} {N ps : List Str} {k : Nat} {sp : Sp} (F : FunD K x qual (defArgs st) (defBody st) (defScope st) dvs kws f fd) (S : FnScope N ps (defScope st))
    (len : ∀ vs H Q E, sp vs H Q E → vs.length = ps.length)
    (body : ∀ (cdv : Value) (B : Around) (out : List Env) (s : Shared) (H : Hp) (vs : List V) (Q : VK) (E : XK), Room k (B.deeper (envOfC qual (defScope st) s.heap.objs.size f cdv)) →
      Takes (cxOf (L2.CX P w) P w K mg base N qual (defScope st) f cdv B out s H E) (fun cls d _ H => E cls d H) →
      PassesOwn (model P w) (B.deeper (envOfC qual (defScope st) s.heap.objs.size f cdv)) (envOfC qual (defScope st) s.heap.objs.size f cdv) (cxOf (L2.CX P w) P w K mg base N qual (defScope st) f cdv B out s H E).xe → sp vs H Q E →
      WL (cxOf (L2.CX P w) P w K mg base N qual (defScope st) f cdv B out s H E) (defBody st) { nx := fun _ H' => Q .non H', rt := Q } (start N vs) H) : FnOk P w K mg base (L2.CX P w) (k + 1) f fd ps sp := by
  obtain ⟨oc, od, dV, kV, doc, pm, an, cdv, ct, osl, rfl, lk, hcd, _, _⟩ := F.ex
  exact fn_of lk hcd S len fun B out s H vs Q E hr h => ⟨_, pL, body cdv B out s H vs Q E hr (takes_of rfl rfl rfl rfl) (passes_of rfl) h⟩
abbrev nCInit : List Str := ["self", "types", "casts", "cast"]
section
variable {P : Program} {w : World} {K : PySem.W.Frag} {mg : Str → Option Value} {base : Heap}
theorem scCInit : FnScope nCInit ["self", "types", "casts"] (defScope sCInit) := ⟨rfl, rfl, rfl, by decide +kernel, rfl, by decide +kernel, by decide +kernel⟩
theorem ok_cinit {C CH CI f : Addr} {fd : FuncData} {dvs : List V} {kws : List (Str × V)} (F : FunD K "__init__" "Catalog.__init__" (defArgs sCInit) (defBody sCInit) (defScope sCInit) dvs kws f fd) (G : Bf w K mg) (Gc : Bc K mg C CI) (cT : CalN P w K mg base 4 "are_types" (spB typB)) (cC : CalN P w K mg base 3 "are_casts" (spR RCasts)) (cH : MakN P w K mg base CX0 1 "Holding" CH (spHold CH)) :
    FnOk P w K mg base (L2.CX P w) 5 f fd ["self", "types", "casts"] (spCat C CH CI) := by
  refine fund_okXW F scCInit (fun vs H Q E h => by obtain ⟨S, c, dx, v1, v2, d1, d2, rfl, _⟩ := h; rfl) (fun cdv B out s H vs Q E hr tk po h => ?_)
  obtain ⟨S, c, dx, v1, v2, d1, d2, rfl, hc, hS, dom, g1, g2, ok1, ok2, q1, q2⟩ := h
  have sl : SL S H [some (.ref c), some v1, some v2, none] [none, some d1, some d2, none] := ⟨dom, fun i d q => (by
    match i, q with
    | 0, q => cases q
    | 1, q => cases q; exact ⟨v1, rfl, g1⟩
    | 2, q => cases q; exact ⟨v2, rfl, g2⟩
    | 3, q => cases q
    | n + 4, q => cases q), rfl⟩
  refine l_cons (s_if (td_w (k := !typB d1 || !casB (zsOf d1) d2) (wd_or (k := !typB d1) (m := !casB (zsOf d1) d2) (td_not (td_val (d_fn (f := typB) (d := d1) cT hr (by decide) (d_var 1) ok1))) fun h => wd_or1 (td_not (td_val (d_callR (d := .bool (casB (zsOf d1) d2)) cC hr (by decide) (ad_cons (d_var 2) (ad_cons (d_var 1) ad_nil)) ⟨d2, d1, zsOf d1, rfl, ok2, (typB_iff (nb' h)).1, (typB_iff (nb' h)).2.1, rfl⟩)))) S _ H _ sl fun H1 s1 => ⟨fun h => ?_, fun h => ?_⟩))
  · have hb : catB d1 d2 = false := by unfold catB; revert h; cases typB d1 <;> cases casB (zsOf d1) d2 <;> decide
    exact l_one (s_raise Gc.inv tk (q2 hb H1 s1))
  have hb : catB d1 d2 = true := by unfold catB; revert h; cases typB d1 <;> cases casB (zsOf d1) d2 <;> decide
  have hb' := hb
  unfold catB at hb'
  rw [Bool.and_eq_true] at hb'
  obtain ⟨ht, hca⟩ := hb'
  obtain ⟨sq1, e1, l1, l2, _, _⟩ := typB_iff ht
  have hca' := hca
  unfold casB at hca'
  rw [Bool.and_eq_true, Bool.and_eq_true] at hca'
  obtain ⟨sq2, al2, _⟩ := hca'
  obtain ⟨e2, _⟩ := pairs_of ok2.2.2 al2
  refine l_nil ?_
  have sl := sl.same s1
  have M1 : Mk1 C c dx H H1 [] := ⟨s1 _ _ hc, fun b o _ e => s1 b o e⟩
  -- self._types
  have dT : ∀ {X : Cx} {ρ : Rho} {e : Expr} {p p' pos pos' : Pos}, ED X ρ e d1 → X.mg "sorted" = none → X.mg "tuple" = none → Gl X "sorted" → Gl X "tuple" → starEach [e] X.env = (false, eval e X.env) :: starEach [] X.env → starEach [.Call (.Name "sorted" p) [e] [] pos] X.env = (false, eval (.Call (.Name "sorted" p) [e] [] pos) X.env) :: starEach [] X.env →
      ED X ρ (.Call (.Name "tuple" p') [.Call (.Name "sorted" p) [e] [] pos] [] pos') (.tuple ((srt (zsOf d1)).map PyData.str)) := fun {X ρ e p p' pos pos'} he m1 m2 g1 g2 s1 s2 => by
    rcases seq_cases sq1 with q | q
    · exact d_tupleD m2 (d_sortedT m1 (he.cast (by rw [← e1]; exact q)) (by omega) g1 s1) rfl g2 s2
    · exact d_tupleD m2 (d_sortedL m1 (he.cast (by rw [← e1]; exact q)) (by omega) g1 s1) rfl g2 s2
  refine l_cons (s_fld (ed_go (dT (d_var 1) G.sorted G.tuple rfl rfl rfl rfl) sl fun t H2 s2 gt => e_var 0 rfl ?_))
  have M2 := M1.same s2
  refine ⟨c, C, dx, [], rfl, M2.at_, Gc.cl, Gc.no _ (by decide), by decide, ?_⟩
  have tt : DT H2 t (.tuple ((srt (zsOf d1)).map PyData.str)) := gt.toDT (tupOnly_strs _)
  have sl := sl_insd (gs := putF "_types" t []) (sl.same s2) hS M2.at_
  have tt := tt.mono (ins_tups (gs := putF "_types" t []) M2.at_)
  replace M2 := M2.put (gs := putF "_types" t [])
  generalize L2.upd H2 c (.ins C dx (putF "_types" t [])) = H3 at M2 sl tt
  -- self._casts
  obtain ⟨pa, pb, pc⟩ := pairs_ok e2
  obtain ⟨qs, eq, lq⟩ := srtD_pairs ((seqD d2).map pr)
  have eq2 : srtD (seqD d2) = qs.map prD := by rw [e2]; rw [List.map_map] at eq ⊢; exact eq
  refine l_cons (s_fld (ed_go (d_tupleD G.tuple (d_sortD G.sorted hr.units (d_var 2) sq2 pa pb (by have := ok2.2.1; omega) pc) rfl) sl fun k H4 s4 gk => e_var 0 rfl ?_))
  have M4 := M2.same s4
  refine ⟨c, C, dx, _, rfl, M4.at_, Gc.cl, Gc.no _ (by decide), by have := length_putF "_types" t []; simp at this; omega, ?_⟩
  have kk : DT H4 k (.tuple (srtD (seqD d2))) := gk.toDT (by show tupOnlys (srtD (seqD d2)) = true; rw [eq2]; exact tupOnly_prs qs)
  have kk := kk.mono (ins_tups (gs := putF "_casts" k (putF "_types" t [])) M4.at_)
  have tt := (tt.mono (My.Same.tups s4)).mono (ins_tups (gs := putF "_casts" k (putF "_types" t [])) M4.at_)
  replace M4 := M4.put (gs := putF "_casts" k (putF "_types" t []))
  have lk2 : (putF "_casts" k (putF "_types" t [])).lookup ("_casts" : Str) = some k := by rw [lookup_putF, if_pos rfl]
  have lt2 : (putF "_casts" k (putF "_types" t [])).lookup ("_types" : Str) = some t := by rw [lookup_putF, if_neg (by decide), lookup_putF, if_pos rfl]
  have ll2 : (putF "_casts" k (putF "_types" t [])).length ≤ 10 := by have := length_putF "_types" t []; have := length_putF "_casts" k (putF "_types" t []); simp at *; omega
  show WL _ _ _ [some (.ref c), some v1, some v2, none] (L2.upd H4 c (.ins C dx (putF "_casts" k (putF "_types" t []))))
  generalize putF "_casts" k (putF "_types" t []) = fs at M4 kk tt lk2 lt2 ll2
  generalize L2.upd H4 c (.ins C dx fs) = H5 at M4 kk tt
  -- self._casting
  rw [eq2] at kk
  refine l_cons (s_fld (e_dcTrue 3 scCInit.nd hr.units (blkOk_by (N := nCInit) (sc := defScope sCInit) (by decide +kernel)) (e_fld (e_var 0 rfl ⟨c, C, dx, fs, k, rfl, M4.at_, Gc.cl, Gc.no _ (by decide), lk2, ?_⟩)) (by show 3 < 4; decide) (fun _ _ _ _ _ => pg_name (i := 3) scCInit.nd rfl (Or.inl rfl)) (fun _ _ _ _ _ => pe_var (i := 3) rfl (Or.inl rfl))))
  cases kk with
  | @tup ka kxs _ hk hks =>
  refine ⟨ka, kxs, rfl, hk, dts_pairs hks, by rw [hks.length, List.length_map, lq, List.length_map]; have := ok2.2.1; omega, fun D kvs hD => ?_⟩
  have ncD : c ≠ D := fun e => by rw [← e, M4.at_] at hD; cases hD
  have s6 : Same H5 (L2.upd H5 D (.dT kvs)) := same_new hD
  have M6 := M4.same s6
  have kk : DT (L2.upd H5 D (.dT kvs)) (.ref ka) (.tuple (qs.map prD)) := .tup (s6 _ _ hk) (hks.mono (My.Same.tups s6))
  have tt := tt.mono (My.Same.tups s6)
  refine e_var 0 rfl ⟨c, C, dx, fs, rfl, M6.at_, Gc.cl, Gc.no _ (by decide), by omega, ?_⟩
  have kk := kk.mono (ins_tups (gs := putF "_casting" (.ref D) fs) M6.at_)
  have tt := tt.mono (ins_tups (gs := putF "_casting" (.ref D) fs) M6.at_)
  replace M6 := M6.put (gs := putF "_casting" (.ref D) fs)
  have lk3 : (putF "_casting" (.ref D) fs).lookup ("_casts" : Str) = some (.ref ka) := by rw [lookup_putF, if_neg (by decide)]; exact lk2
  have lt3 : (putF "_casting" (.ref D) fs).lookup ("_types" : Str) = some t := by rw [lookup_putF, if_neg (by decide)]; exact lt2
  have ll3 : (putF "_casting" (.ref D) fs).length ≤ 11 := by have := length_putF "_casting" (.ref D) fs; omega
  show WL _ _ _ [some (.ref c), some v1, some v2, none] (L2.upd (L2.upd H5 D (.dT kvs)) c (.ins C dx (putF "_casting" (.ref D) fs)))
  generalize putF "_casting" (.ref D) fs = fs2 at M6 kk tt lk3 lt3 ll3
  generalize L2.upd (L2.upd H5 D (.dT kvs)) c (.ins C dx fs2) = H7 at M6 kk tt
  -- self._holding
  refine l_cons (s_fld (e_make0 cH hr (by decide) fun h dh n1 n2 n3 => ⟨h, dh, rfl, upd_same, fun H8 kp hd => ⟨rfl, ?_⟩⟩))
  have nch : c ≠ h := fun e => by rw [← e, M6.at_] at n1; cases n1
  have s8 : Same H7 H8 := fun b o e => kp b o (fun z => by rw [z, n1] at e; cases e) (by rw [upd_ne (fun z => by rw [z, n1] at e; cases e), upd_ne (fun z => by rw [z, n2] at e; cases e)]; exact e)
  have M8 := M6.same s8
  refine e_var 0 rfl ⟨c, C, dx, fs2, rfl, M8.at_, Gc.cl, Gc.no _ (by decide), by omega, ?_⟩
  refine l_nil (q1 hb _ (M8.put (gs := putF "_holding" (.ref h) fs2)).keep ⟨dx, putF "_holding" (.ref h) fs2, t, .ref ka, h, upd_same, by rw [lookup_putF, if_neg (by decide)]; exact lt3, (tt.mono (My.Same.tups s8)).mono (ins_tups M8.at_), by rw [lookup_putF, if_neg (by decide)]; exact lk3, ?_, by rw [lookup_putF, if_pos rfl], ?_⟩)
  · rw [eq2]; exact (kk.mono (My.Same.tups s8)).mono (ins_tups M8.at_)
  · obtain ⟨dz, fz, h1, h2, h3⟩ := hd
    refine ⟨dz, fz, by rw [upd_ne nch.symm]; exact h1, h2, fun n m => ?_⟩
    obtain ⟨e, h4, h5⟩ := h3 n m
    exact ⟨e, h4, by rw [upd_ne (fun z => by rw [z, M8.at_] at h5; cases h5)]; exact h5⟩
end
end K02

namespace K02
open PySem PySem.Spec PyProof.Rows L2 My


structure Bi (K : PySem.W.Frag) (mg : Str → Option Value) (C : Addr) : Prop where
  cl : Cls K C
  no : ∀ n ∈ cNames, NoAttr K C n
  g : mg "Catalog" = some (.ref C)
  ha : PySem.W.findIn K (.ref C) "__class__" = some (some (.builtin "object.__class__"))
  hn : PySem.W.specialIn K (.builtin "object.__class__") "__get__" = some (some (.builtin "getset_descriptor.__get__"))
  ht : PySem.W.takesIn K (.builtin "object.__class__") = some true
  hm : PySem.W.mroIn K C (.type "object") = some true
  kt : PySem.W.kitOne K (.type "tuple") (.ref C) = some false
/-- next_number, all_numbers -/
def spNum (C CH : Addr) : Sp := fun vs H Q _ => ∃ c ts cs, vs = [.ref c] ∧ CatAt C CH H c ts cs ∧ Q (.int 0) H
def spAll (C CH : Addr) : Sp := fun vs H Q _ => ∃ c ts cs, vs = [.ref c] ∧ CatAt C CH H c ts cs ∧ ∀ p, H p = none → Q (.ref p) (L2.upd H p (.lst []))
def spTys (C CH : Addr) : Sp := fun vs H Q _ => ∃ c ts cs, vs = [.ref c] ∧ CatAt C CH H c ts cs ∧ ∀ t, DT H t (.tuple (ts.map PyData.str)) → Q t H
def spCas (C CH : Addr) : Sp := fun vs H Q _ => ∃ c ts cs, vs = [.ref c] ∧ CatAt C CH H c ts cs ∧ ∀ t, DT H t (.tuple cs) → Q t H
/-- self == other: another catalog, or a tuple -/
def spEq (C CH : Addr) : Sp := fun vs H Q _ => ∃ c y ts cs, vs = [.ref c, y] ∧ CatAt C CH H c ts cs ∧ SeqAt.shaped (.tuple (ts.map PyData.str)) = true ∧ SeqAt.shaped (.tuple cs) = true ∧
  ((∃ c2 ts2 cs2, y = .ref c2 ∧ CatAt C CH H c2 ts2 cs2 ∧ SeqAt.shaped (.tuple (ts2.map PyData.str)) = true ∧ SeqAt.shaped (.tuple cs2) = true ∧ Q (.bl (PyData.eqv (.tuple (ts.map PyData.str)) (.tuple (ts2.map PyData.str)) && PyData.eqv (.tuple cs) (.tuple cs2))) H) ∨
    ∃ a xs, y = .ref a ∧ H a = some (.tup xs) ∧ Q (.bl false) H)
abbrev sTysG : Stmt := inClass (top 16) 1
abbrev sCasG : Stmt := inClass (top 16) 2
section
variable {P : Program} {w : World} {K : PySem.W.Frag} {mg : Str → Option Value} {base : Heap}
theorem scTysG : FnScope ["self"] ["self"] (defScope sTysG) := ⟨rfl, rfl, rfl, by decide +kernel, rfl, by decide +kernel, by decide +kernel⟩
theorem ok_tysG {C CH f : Addr} {fd : FuncData} (F : Fun K "types" "Catalog.types" sTysG f fd) (I : Bi K mg C) : FnOk P w K mg base CX0 1 f fd ["self"] (spTys C CH) := by
  refine Fun.okW F scTysG (fun vs H Q E h => by obtain ⟨a, b, d, rfl, _⟩ := h; rfl) (fun cdv B out s H vs Q E hr h => ?_)
  obtain ⟨c, ts, cs, rfl, ⟨dx, fs, t, k, h, h1, h2, h3, _⟩, q⟩ := h
  exact l_one (s_ret (e_fld (e_var 0 rfl ⟨c, C, dx, fs, t, rfl, h1, I.cl, I.no _ (by decide), h2, q t h3⟩)))
theorem scCasG : FnScope ["self"] ["self"] (defScope sCasG) := ⟨rfl, rfl, rfl, by decide +kernel, rfl, by decide +kernel, by decide +kernel⟩
theorem ok_casG {C CH f : Addr} {fd : FuncData} (F : Fun K "casts" "Catalog.casts" sCasG f fd) (I : Bi K mg C) : FnOk P w K mg base CX0 1 f fd ["self"] (spCas C CH) := by
  refine Fun.okW F scCasG (fun vs H Q E h => by obtain ⟨a, b, d, rfl, _⟩ := h; rfl) (fun cdv B out s H vs Q E hr h => ?_)
  obtain ⟨c, ts, cs, rfl, ⟨dx, fs, t, k, h, h1, h2, h3, h4, h5, _⟩, q⟩ := h
  exact l_one (s_ret (e_fld (e_var 0 rfl ⟨c, C, dx, fs, k, rfl, h1, I.cl, I.no _ (by decide), h4, q k h5⟩)))
theorem scNextN : FnScope ["self"] ["self"] (defScope sNextN) := ⟨rfl, rfl, rfl, by decide +kernel, rfl, by decide +kernel, by decide +kernel⟩
theorem ok_nextN {C CH f : Addr} {fd : FuncData} (F : Fun K "next_number" "Catalog.next_number" sNextN f fd) (I : Bi K mg C) (Gh : Bh K CH) : FnOk P w K mg base CX0 1 f fd ["self"] (spNum C CH) := by
  refine Fun.okW F scNextN (fun vs H Q E h => by obtain ⟨a, b, d, rfl, _⟩ := h; rfl) (fun cdv B out s H vs Q E hr h => ?_)
  obtain ⟨c, ts, cs, rfl, ⟨dx, fs, t, k, h, h1, h2, h3, h4, h5, h6, dh, fh, h7, h8, h9⟩, q⟩ := h
  exact l_one (s_ret (e_fld (e_fld (e_var 0 rfl ⟨c, C, dx, fs, _, rfl, h1, I.cl, I.no _ (by decide), h6, h, CH, dh, fh, _, rfl, h7, Gh.cl, Gh.no _ (by decide), h8, q⟩))))
theorem scAllN : FnScope ["self"] ["self"] (defScope sAllN) := ⟨rfl, rfl, rfl, by decide +kernel, rfl, by decide +kernel, by decide +kernel⟩
theorem ok_allN {C CH f : Addr} {fd : FuncData} (F : Fun K "all_numbers" "Catalog.all_numbers" sAllN f fd) (I : Bi K mg C) (Gh : Bh K CH) (G : Bf w K mg) : FnOk P w K mg base CX0 1 f fd ["self"] (spAll C CH) := by
  refine Fun.okW F scAllN (fun vs H Q E h => by obtain ⟨a, b, d, rfl, _⟩ := h; rfl) (fun cdv B out s H vs Q E hr h => ?_)
  obtain ⟨c, ts, cs, rfl, ⟨dx, fs, t, k, h, h1, h2, h3, h4, h5, h6, dh, fh, h7, h8, h9⟩, q⟩ := h
  obtain ⟨e, h10, h11⟩ := h9 "things" (by decide)
  refine l_one (s_ret (e_callB (call_sortedDI rfl) G.sorted PyProof.Rows.boot_sorted (a_cons (e_fld (e_fld (e_var 0 rfl ⟨c, C, dx, fs, _, rfl, h1, I.cl, I.no _ (by decide), h6, h, CH, dh, fh, _, rfl, h7, Gh.cl, Gh.no _ (by decide), h10, a_nil ⟨e, [], [], rfl, .inl h11, rfl, by decide, fun ys p pm _ hp => ?_⟩⟩)))) rfl (by decide) (by decide) rfl rfl))
  rw [pm.eq_nil]
  exact q p hp
theorem scEq : FnScope ["self", "other"] ["self", "other"] (defScope sEq) := ⟨rfl, rfl, rfl, by decide +kernel, rfl, by decide +kernel, by decide +kernel⟩
theorem ok_eq {C CH f : Addr} {fd : FuncData} (F : Fun K "__eq__" "Catalog.__eq__" sEq f fd) (I : Bi K mg C) (Gh : Bh K CH) (G : Bf w K mg) : FnOk P w K mg base CX0 1 f fd ["self", "other"] (spEq C CH) := by
  refine Fun.okW F scEq (fun vs H Q E h => by obtain ⟨a, b, c, d, rfl, _⟩ := h; rfl) (fun cdv B out s H vs Q E hr h => ?_)
  obtain ⟨c, y, ts, cs, rfl, ⟨dx, fs, t, k, h, h1, h2, h3, h4, h5, h6, dh, fh, h7, h8, h9⟩, sh1, sh2, q⟩ := h
  rcases q with ⟨c2, ts2, cs2, rfl, ⟨ex, gs, t2, k2, g, g1, g2, g3, g4, g5, g6, dg, fg, g7, g8, g9⟩, sh3, sh4, q⟩ | ⟨a, xs, rfl, ha, q⟩
  · have two : ∀ {X : Cx} {n : Str} {p1 p2 p3 p4 p5 p6 p7 : Pos} {rest : Bool → Hp → Prop} {e1 e2 : Addr}, True → True := fun _ => trivial
    have L : ∀ n ∈ hNames, ∃ e1 e2, fh.lookup n = some (.ref e1) ∧ H e1 = some (.dK []) ∧ fg.lookup n = some (.ref e2) ∧ H e2 = some (.dK []) := fun n m => by
      obtain ⟨e1, a1, a2⟩ := h9 n m
      obtain ⟨e2, b1, b2⟩ := g9 n m
      exact ⟨e1, e2, a1, a2, b1, b2⟩
    have step : ∀ (n : Str), n ∈ hNames → ∀ {p1 p2 p3 p4 p5 p6 p7 : Pos} {Q' : VK}, Q' (.bl true) H → WE (cxOf CX0 P w K mg base ["self", "other"] "Catalog.__eq__" (defScope sEq) f cdv B out s H E).nox
        (.Compare (.Attribute (.Attribute (.Name "self" p1) "_holding" p2) n p3) [.Eq] [.Attribute (.Attribute (.Name "other" p4) "_holding" p5) n p6] p7) [some (.ref c), some (.ref c2)] H Q' := fun n m {p1 p2 p3 p4 p5 p6 p7 Q'} q' => by
      obtain ⟨e1, e2, a1, a2, b1, b2⟩ := L n m
      exact e_cmp (op_eq_dictA hr.units0) (e_fld (e_fld (e_var 0 rfl ⟨c, C, dx, fs, _, rfl, h1, I.cl, I.no _ (by decide), h6, h, CH, dh, fh, _, rfl, h7, Gh.cl, Gh.no n (List.mem_cons_of_mem _ m), a1, e_fld (e_fld (e_var 1 rfl ⟨c2, C, ex, gs, _, rfl, g1, I.cl, I.no _ (by decide), g6, g, CH, dg, fg, _, rfl, g7, Gh.cl, Gh.no n (List.mem_cons_of_mem _ m), b1, e1, e2, [], [], rfl, rfl, a2, b2, rfl, (fun p m => by cases m), q'⟩))⟩)))
    have ty : TyX K H (.ref c2) (.ref C) := .base (.ins g1 I.cl I.ha I.hn I.ht I.hm)
    refine l_one (s_ret (e_and (e_callB call_isi G.isi PyProof.Rows.boot_isinstance (a_cons (e_var 1 rfl (a_cons (e_glob (v := .ref C) I.g rfl (a_nil ⟨.ref c2, .ref C, .ref C, .ref C, true, rfl, .own C, ty, if_pos (beq_self_eq_true _), true, rfl, fun _ => ?_, fun h => by cases h⟩))))) rfl (by decide) (by decide) rfl rfl)))
    refine e_and (e_cmp (op_eqD hr.units) (e_fld (e_var 0 rfl ⟨c, C, dx, fs, t, rfl, h1, I.cl, I.no _ (by decide), h2, e_fld (e_var 1 rfl ⟨c2, C, ex, gs, t2, rfl, g1, I.cl, I.no _ (by decide), g2, _, _, h3.dp, g3.dp, sh1, sh3, _, rfl, fun e1 => ?_, fun e1 => ?_⟩)⟩)))
    · refine e_and (e_cmp (op_eqD hr.units) (e_fld (e_var 0 rfl ⟨c, C, dx, fs, k, rfl, h1, I.cl, I.no _ (by decide), h4, e_fld (e_var 1 rfl ⟨c2, C, ex, gs, k2, rfl, g1, I.cl, I.no _ (by decide), g4, _, _, h5.dp, g5.dp, sh2, sh4, _, rfl, fun e2 => ?_, fun e2 => ?_⟩)⟩)))
      · rw [e1, e2] at q
        refine e_and (step "things" (by decide) ⟨true, rfl, fun _ => ?_, fun h => by cases h⟩)
        refine e_and (step "facts" (by decide) ⟨true, rfl, fun _ => ?_, fun h => by cases h⟩)
        refine e_and (step "rights" (by decide) ⟨true, rfl, fun _ => ?_, fun h => by cases h⟩)
        exact e_one (step "rules" (by decide) q)
      · rw [e2, Bool.and_false] at q; exact q
    · rw [e1, Bool.false_and] at q; exact q
  · refine l_one (s_ret (e_and (e_callB call_isi G.isi PyProof.Rows.boot_isinstance (a_cons (e_var 1 rfl (a_cons (e_glob (v := .ref C) I.g rfl (a_nil ⟨.ref a, .ref C, .type "tuple", .ref C, false, rfl, .own C, .base (.tup ha), I.kt, false, rfl, (fun h => by cases h), fun _ => q⟩))))) rfl (by decide) (by decide) rfl rfl)))
end
end K02

namespace K02
open PySem PySem.Spec PyProof.Rows L2 My


abbrev sNym : Stmt := top 25
abbrev sFits : Stmt := top 26
section
variable {P : Program} {w : World} {K : PySem.W.Frag} {mg : Str → Option Value} {base : Heap}
abbrev nNym : List Str := ["_law_thing_here", "_law_reserved", "_law_sign"]
theorem scNym : FnScope nNym ["_law_thing_here"] (defScope sNym) := ⟨rfl, rfl, rfl, by decide +kernel, rfl, by decide +kernel, by decide +kernel⟩
theorem lit_resv {j1 j2 j3 j4 j5 j6 j7 kk} {p1 p2 p3 p4 p5 p6 p7 p8 : Pos} : Lit (.Tuple [.Constant (.str "select") j1 p1, .Constant (.str "distinct") j2 p2, .Constant (.str "as") j3 p3, .Constant (.str "from") j4 p4, .Constant (.str "where") j5 p5, .Constant (.str "and") j6 p6, .Constant (.str "in") j7 p7] kk p8) (.tuple (resv.map PyData.str)) :=
  .tup (.cons (.str _) (.cons (.str _) (.cons (.str _) (.cons (.str _) (.cons (.str _) (.cons (.str _) (.cons (.str _) .nil))))))) (by decide)
theorem ok_nym {f : Addr} {fd : FuncData} (F : Fun K "_law_is_nym" "_law_is_nym" sNym f fd) (G : Bf w K mg) : FnOk P w K mg base CX0 1 f fd ["_law_thing_here"] (spB namD) := by
  refine Fun.ok1 F scNym fun cdv B out s H E d hr hok => ?_
  refine ld_ifret (k := !lenB d) (td_w (wd_strB1 ⟨G.isi, G.str, G.len⟩ (d_var 0) (d_var 0) hok)) (fun h => ?_) fun h => ?_
  · refine LD.cast (ld_end (sd_ret (d_bl false))) ?_
    have e := nb h
    have e2 : valD d = false := by rw [valD_len, e]; rfl
    have e3 : namD d = false := by
      cases d with
      | str z => show (valS z && _) = false; rw [show valS z = false from e2]; rfl
      | _ => rfl
    rw [e3]
  have h1 := nb' h
  have hs1 : isStr d = true := by unfold lenB at h1; rw [Bool.and_eq_true] at h1; exact h1.1
  refine ld_cons (sd_set 1 (d_lit lit_resv) scNym.nd) ?_
  refine LD.cast (ld_end (sd_ret (d_and (r := d) (m := !decide (My.strOf d ∈ resv)) (d_letters 2 G.all scNym.nd (blkOk_by (N := nNym) (sc := defScope sNym) (by decide +kernel)) (d_var 0) h1 (fun c _ _ _ _ _ => d_var 2) (fun _ _ _ _ _ => pg_name (i := 2) scNym.nd rfl (Or.inl rfl))) fun _ => d_one (d_cmp o_notInS (ED.cast (d_var 0) (isStr_eq hs1)) (d_var 1) ⟨_, resv, rfl, rfl, rfl⟩)))) ?_
  have e2 := valD_len d
  rw [h1, Bool.true_and] at e2
  rw [← e2]
  rw [isStr_eq hs1]
  rfl
/-- a loop that returns False at the first item without g -/
theorem for_all {X : Cx} {j : Nat} {body : List Stmt} {g : PyData → Bool} {M : PyData → Prop} (rest : Option PyData → List (Option PyData)) (hset : ∀ o it, (rest o).set j (some it) = rest (some it))
    (step : ∀ it, M it → (g it = false → LD X (rest (some it)) body (.ret (.bool false))) ∧ (g it = true → LD X (rest (some it)) body (.nx (rest (some it))))) :
    ∀ (ds : List PyData) (o1 : Option PyData), (∀ it ∈ ds, M it) → (ds.all g = true → ∃ o2, ForD X j body ds (rest o1) (.nx (rest o2))) ∧ (ds.all g = false → ForD X j body ds (rest o1) (.ret (.bool false)))
  | [], o1, _ => ⟨fun _ => ⟨o1, .done⟩, (fun h => by cases h)⟩
  | it :: ds, o1, hd => by
    have h1 := step it (hd it List.mem_cons_self)
    have ih := for_all rest hset step ds (some it) fun x hx => hd x (List.mem_cons_of_mem _ hx)
    rw [List.all_cons]
    cases hg : g it with
    | false => exact ⟨(fun h => by cases h), fun _ => .ret (by rw [hset]; exact h1.1 hg)⟩
    | true =>
      rw [Bool.true_and]
      refine ⟨fun h => ?_, fun h => .next (by rw [hset]; exact h1.2 hg) (ih.2 h)⟩
      obtain ⟨o2, f⟩ := ih.1 h
      exact ⟨o2, .next (by rw [hset]; exact h1.2 hg) f⟩
/-- the law's own judgement -/
def RFits (ds : List PyData) (r : PyData) : Prop := ∃ d1 d2, ds = [d1, d2] ∧ okS d1 = true ∧ okSteps d2 ∧ r = .bool (catB d1 d2)
abbrev nFits : List Str := ["_law_sorts", "_law_steps_here", "_law_one", "_law_pair"]
theorem scFits : FnScope nFits ["_law_sorts", "_law_steps_here"] (defScope sFits) := ⟨rfl, rfl, rfl, by decide +kernel, rfl, by decide +kernel, by decide +kernel⟩
theorem castB_names {zs : List Str} (hz : ∀ z ∈ zs, namD (.str z) = true) {x : PyData} (hx : okStep x) : castB zs x = (tupN x 2 && (els x).all namD && (!decide ((pr x).1 = (pr x).2) && decide ((pr x).1 ∈ zs) && decide ((pr x).2 ∈ zs))) := by
  unfold castB
  cases h : tupN x 2 with
  | false => rfl
  | true =>
    obtain ⟨p, rfl⟩ := hx.2 h
    rw [Bool.true_and, Bool.true_and]
    show (decide (p.1 ∈ zs) && (decide (p.2 ∈ zs) && !decide (p.1 = p.2))) = ((namD (.str p.1) && (namD (.str p.2) && true)) && (!decide (p.1 = p.2) && decide (p.1 ∈ zs) && decide (p.2 ∈ zs)))
    by_cases h1 : p.1 ∈ zs
    · by_cases h2 : p.2 ∈ zs
      · rw [hz _ h1, hz _ h2, decide_eq_true h1, decide_eq_true h2]
        cases decide (p.1 = p.2) <;> rfl
      · rw [decide_eq_true h1, decide_eq_false h2]; simp
    · rw [decide_eq_false h1]; simp
theorem ok_fits {f : Addr} {fd : FuncData} (F : Fun K "_law_fits" "_law_fits" sFits f fd) (G : Bf w K mg) (cN : CalN P w K mg base 1 "_law_is_nym" (spB namD)) : FnOk P w K mg base CX0 2 f fd ["_law_sorts", "_law_steps_here"] (spR RFits) := by
  refine Fun.okR F scFits (fun ds r h => by obtain ⟨d1, d2, rfl, _⟩ := h; rfl) fun cdv B out s H E ds r hr h => ?_
  obtain ⟨d1, d2, rfl, ok1, ok2, rfl⟩ := h
  refine ld_ifret (k := !isSq d1 || !isSq d2) (td_w (wd_or (k := !isSq d1) (m := !isSq d2) (td_not (td_val (d_isi2 G.isi G.list G.tuple PyProof.Rows.boot_list PyProof.Rows.boot_tuple (d_var 0) (kit_lt d1)))) fun _ => wd_or1 (td_not (td_val (d_isi2 G.isi G.list G.tuple PyProof.Rows.boot_list PyProof.Rows.boot_tuple (d_var 1) (kit_lt d2)))))) (fun h => ?_) fun h => ?_
  · exact LD.cast (ld_end (sd_ret (d_bl false))) (by unfold catB typB casB; revert h; cases isSq d1 <;> cases isSq d2 <;> simp)
  have sq1 : isSq d1 = true := by revert h; cases isSq d1 <;> simp
  have sq2 : isSq d2 = true := by revert h; cases isSq d2 <;> simp
  have okx : ∀ x ∈ seqD d1, okS x = true := okS_t (okS_seq ok1)
  refine ld_ifret (k := !tupD 1 4 namD (.tuple (seqD d1))) (TD.cast (td_w (wd_or (k := !(decide ((1 : Int) ≤ ((seqD d1).length : Int)) && decide (((seqD d1).length : Int) ≤ 4))) (m := !(seqD d1).all namD) (td_not (td_btw (d_int 1) (d_lenQ G.len (d_var 0) sq1) fun _ => d_int 4)) fun h => wd_or1 (td_not (td_val (d_allQ 2 namD G.all scFits.nd (blkOk_by (N := nFits) (sc := defScope sFits) (by decide +kernel)) (d_var 0) sq1 ?_ (fun y hy s0 H00 C cl fp => d_fn cN hr (by decide) (d_var 2) (okx y hy)) (fun _ _ _ _ _ => pg_name (i := 2) scFits.nd rfl (Or.inl rfl))))))) ?_) (fun h => ?_) fun h => ?_
  · have := nb' h
    rw [Bool.and_eq_true, decide_eq_true_eq, decide_eq_true_eq] at this
    omega
  · show _ = !(_ && _ && _)
    exact (Bool.not_and _ _).symm
  · exact LD.cast (ld_end (sd_ret (d_bl false))) (by unfold catB typB; rw [nb h]; simp)
  have ht := nb' h
  obtain ⟨_, l1, l2, al⟩ := tupD_els ht
  have al' : ∀ x ∈ seqD d1, namD x = true := al
  have l2' : ((seqD d1).length : Int) ≤ 4 := l2
  have e1 : seqD d1 = (zsOf d1).map PyData.str := names_strs al'
  have lz : (zsOf d1).length = (seqD d1).length := by unfold zsOf; rw [List.length_map]
  have hq : d1 = .list ((zsOf d1).map PyData.str) ∨ d1 = .tuple ((zsOf d1).map PyData.str) := by
    rw [← e1]; exact (seq_cases sq1).symm
  have srt_len : (srt (dd (zsOf d1))).length = (dd (zsOf d1)).length := (srt_perm _).length_eq
  refine ld_ifret (k := !decide (zsOf d1).Nodup) (td_cmp (d1 := .int (((srt (dd (zsOf d1))).map PyData.str).length : Int)) (d2 := .int ((seqD d1).length : Int)) o_neI (d_lenL G.len (d_sortedSet G.sorted G.set (hq.imp (fun q => (d_var 0).cast q) fun q => (d_var 0).cast q) (by omega))) (d_lenQ G.len (d_var 0) sq1) ⟨_, _, rfl, rfl, ?_⟩) (fun h => ?_) fun h => ?_
  · rw [List.length_map, srt_len, ← lz]
    congr 1
    apply Bool.eq_iff_iff.mpr
    rw [decide_eq_true_eq, decide_eq_true_eq, ← dd_len]
    omega
  · exact LD.cast (ld_end (sd_ret (d_bl false))) (by unfold catB typB; rw [nb h]; simp)
  have hn := nb' h
  have hT : typB d1 = true := by unfold typB; rw [sq1, ht, hn]; rfl
  have names : ∀ z ∈ zsOf d1, namD (.str z) = true := (typB_iff hT).2.2.2.2.1
  have eC : catB d1 d2 = ((seqD d2).all (castB (zsOf d1)) && decide ((seqD d2).map pr).Nodup) := by unfold catB casB; rw [hT, sq2]; rfl
  rw [eC]
  have step := for_all (X := (cxOf CX0 P w K mg base nFits "_law_fits" (defScope sFits) f cdv B out s H E).nox) (j := 3) (body := (match defBody sFits with | _ :: _ :: _ :: .For _ _ l _ _ :: _ => l | _ => [])) (g := castB (zsOf d1)) (M := okStep) (fun o => [some d1, some d2, none, o]) (fun _ _ => rfl) (fun x hx => ?_) (seqD d2) none ok2.2.2
  · cases hall : (seqD d2).all (castB (zsOf d1)) with
    | false => exact LD.cast (ld_end (sd_forQ 3 (d_var 1) sq2 (step.2 hall) (pg_name (i := 3) scFits.nd rfl (.inl rfl)) PassesOwn.never)) rfl
    | true =>
      obtain ⟨y, hf⟩ := step.1 hall
      refine ld_cons (sd_forQ 3 (d_var 1) sq2 hf (pg_name (i := 3) scFits.nd rfl (.inl rfl)) PassesOwn.never) (ld_end (sd_ret fun S σ H Q sl q => ?_))
      obtain ⟨ep, _⟩ := pairs_of ok2.2.2 hall
      have lp : (seqD d2).length ≤ 60 := ok2.2.1
      refine e_cmp op_eq (e_lenSrtKSet G.len G.set G.sorted hr.units ((d_var (d := d2) 1 rfl rfl (Or.inl rfl) (by decide) (by decide) S σ H _ sl fun v H1 s1 g1 => ?_)))
      obtain ⟨a, xs, rfl, gs, hq⟩ := g1.seqs sq2
      have gl := gs.length
      rw [ep] at gs
      obtain ⟨kas, hk, ek⟩ := dgs_ksq (K := K) gs (hq.imp (fun z => z.2) fun z => z.2) (by rw [List.length_map]; omega)
      have lk : kas.length = (seqD d2).length := by have := congrArg List.length ek; rw [List.length_map, List.length_map, List.length_map] at this; exact this
      have mem : ∀ e ∈ kas, ∃ p : Str × Str, e.2 = prK p := fun e m => by
        have : e.2 ∈ kas.map (·.2) := List.mem_map.mpr ⟨e, m, rfl⟩
        rw [ek] at this
        obtain ⟨p, _, q⟩ := List.mem_map.mp this
        exact ⟨p, q.symm⟩
      refine ⟨a, kas, rfl, hk, fun e m e' m' => ?_, fun e m => ?_, fun m hm => ?_⟩
      · obtain ⟨p, h1⟩ := mem e m
        obtain ⟨p', h2⟩ := mem e' m'
        rw [h1, h2]
        exact alike_pr p p'
      · obtain ⟨p, h1⟩ := mem e m
        rw [h1]; exact fun z => by cases z
      · refine ed_go (d_lenQ G.len (d_var 1) sq2) (sl.same s1) fun u H2 s2 g2 => ?_
        cases g2
        refine ⟨rfl, ?_⟩
        have e2 : decide (V.int (m : Int) = V.int ((seqD d2).length : Int)) = (true && decide ((seqD d2).map pr).Nodup) := by
          rw [Bool.true_and]
          apply Bool.eq_iff_iff.mpr
          rw [decide_eq_true_eq, decide_eq_true_eq, ← nodup_prK, ← ek, ← hm, lk]
          exact ⟨fun e => by injection e with e; omega, fun e => by rw [e]⟩
        rw [e2]
        exact q _ H2 (s1.trans s2) (.bl _)
  · have hx' := castB_names names hx
    constructor
    · intro hf
      rw [hx'] at hf
      refine ld_ifret (k := !(tupN x 2 && (els x).all namD)) (td_w (WD.cast (wd_tupN (n := 2) ⟨G.isi, G.tuple, G.len⟩ (d_var 3) (d_var 3) fun h2 => wd_or1 (td_not (td_val (d_allT 2 namD G.all scFits.nd (blkOk_by (N := nFits) (sc := defScope sFits) (by decide +kernel)) ((d_var 3).cast (els_tup (tupN_tup h2).1)) (by rw [(tupN_tup h2).2]; decide) (fun y hy s0 H00 C cl fp => d_fn cN hr (by decide) (d_var 2) (okS_els hx.1 y hy)) (fun _ _ _ _ _ => pg_name (i := 2) scFits.nd rfl (Or.inl rfl)))))) (Bool.not_and _ _).symm)) (fun _ => ld_end (sd_ret (d_bl false))) fun h1 => ?_
      have h1 := nb' h1
      rw [h1, Bool.true_and] at hf
      rw [Bool.and_eq_true] at h1
      obtain ⟨p, rfl⟩ := hx.2 h1.1
      refine ld_end (sd_if (k := true) (td_w (WD.cast (wd_or (k := decide (p.1 = p.2)) (m := !decide (p.1 ∈ zsOf d1) || !decide (p.2 ∈ zsOf d1)) (td_cmp (o_eqS hr.units) (d_at (n := 0) (d_var 3) rfl (by show _ < 2; decide)) (d_at (n := 0) (d_var 3) rfl (by show _ < 2; decide)) ⟨p.2, rfl, rfl⟩) fun _ => wd_or (k := !decide (p.1 ∈ zsOf d1)) (m := !decide (p.2 ∈ zsOf d1)) (td_cmp o_notInQ (d_at (n := 0) (d_var 3) rfl (by show _ < 2; decide)) (d_var 0) ⟨p.1, zsOf d1, rfl, sq1, e1, rfl⟩) fun _ => wd_or1 (td_cmp o_notInQ (d_at (n := 0) (d_var 3) rfl (by show _ < 2; decide)) (d_var 0) ⟨p.2, zsOf d1, rfl, sq1, e1, rfl⟩)) ?_)) (fun _ => ld_end (sd_ret (d_bl false))) fun e => by cases e)
      have hf' : (!decide (p.1 = p.2) && decide (p.1 ∈ zsOf d1) && decide (p.2 ∈ zsOf d1)) = false := hf
      revert hf'
      cases decide (p.1 = p.2) <;> cases decide (p.1 ∈ zsOf d1) <;> cases decide (p.2 ∈ zsOf d1) <;> decide
    · intro hf
      rw [hx', Bool.and_eq_true] at hf
      obtain ⟨h1, h2⟩ := hf
      refine ld_cons (sd_if (k := false) (TD.cast (td_w (WD.cast (wd_tupN (n := 2) ⟨G.isi, G.tuple, G.len⟩ (d_var 3) (d_var 3) fun h2 => wd_or1 (td_not (td_val (d_allT 2 namD G.all scFits.nd (blkOk_by (N := nFits) (sc := defScope sFits) (by decide +kernel)) ((d_var 3).cast (els_tup (tupN_tup h2).1)) (by rw [(tupN_tup h2).2]; decide) (fun y hy s0 H00 C cl fp => d_fn cN hr (by decide) (d_var 2) (okS_els hx.1 y hy)) (fun _ _ _ _ _ => pg_name (i := 2) scFits.nd rfl (Or.inl rfl)))))) (Bool.not_and _ _).symm)) (by rw [h1]; rfl)) (fun e => by cases e) fun _ => ld_nil) ?_
      rw [Bool.and_eq_true] at h1
      obtain ⟨p, rfl⟩ := hx.2 h1.1
      refine ld_cons (sd_if (k := false) (td_w (WD.cast (wd_or (k := decide (p.1 = p.2)) (m := !decide (p.1 ∈ zsOf d1) || !decide (p.2 ∈ zsOf d1)) (td_cmp (o_eqS hr.units) (d_at (n := 0) (d_var 3) rfl (by show _ < 2; decide)) (d_at (n := 0) (d_var 3) rfl (by show _ < 2; decide)) ⟨p.2, rfl, rfl⟩) fun _ => wd_or (k := !decide (p.1 ∈ zsOf d1)) (m := !decide (p.2 ∈ zsOf d1)) (td_cmp o_notInQ (d_at (n := 0) (d_var 3) rfl (by show _ < 2; decide)) (d_var 0) ⟨p.1, zsOf d1, rfl, sq1, e1, rfl⟩) fun _ => wd_or1 (td_cmp o_notInQ (d_at (n := 0) (d_var 3) rfl (by show _ < 2; decide)) (d_var 0) ⟨p.2, zsOf d1, rfl, sq1, e1, rfl⟩)) ?_)) (fun e => by cases e) fun _ => ld_nil) ld_nil
      have hf' : (!decide (p.1 = p.2) && decide (p.1 ∈ zsOf d1) && decide (p.2 ∈ zsOf d1)) = true := h2
      revert hf'
      cases decide (p.1 = p.2) <;> cases decide (p.1 ∈ zsOf d1) <;> cases decide (p.2 ∈ zsOf d1) <;> decide
end
end K02

namespace My
open PySem PySem.Spec PyProof.Rows L2
section
variable {X : Cx} {CX : CXT} {k j : Nat} {C f : Addr} {fd : FuncData} {ps : List Str} {sp : Sp} {dvs : List V} {ds : List Value} {Es : L2.St → XK} {x : Str} {p pos : Pos} {e : Expr} {es : List Expr} {σ : L2.St} {H : Hp} {Q : VK}
/-- C(e, ..) within a try: what is raised is wished for at the slots as they stand -/
theorem run_makeS {pins : List (Addr × Obj)} {s : Shared} {us : List Value} {vs : List V} (M : Mk X.K C f) (F : FnOk X.prog X.w X.K X.mg X.base CX k f fd ps sp) (hr : Room (k + 1) X.A) (hb : Binds X.K fd ps ds) (hd : Vals dvs ds)
    (hx : PassesAt CX X σ (Es σ)) (I : Inv X pins σ H s) (r : Vals vs us)
    (h : ∀ a dx, H a = none → H dx = none → dx ≠ a → sp (.ref a :: (vs ++ dvs)) (upd (upd H dx (.own a)) a (.ins C dx [])) (fun v H2 => v = .non ∧ Q (.ref a) H2) (Es σ)) :
    wpAny (model X.prog X.w) X.A (call (.ref C) us) (EP X pins σ Q) X.xe s := by
  have hq := h (s.heap.objs.size + 1) s.heap.objs.size (I.hok.fresh (Nat.le_succ _)) (I.hok.fresh (Nat.le_refl _)) (Nat.ne_of_lt (Nat.lt_succ_self _))
  have J := Inv.made (C := C) I
  have rr : Vals (V.ref (s.heap.objs.size + 1) :: (vs ++ dvs)) (Value.ref (s.heap.objs.size + 1) :: (us ++ ds)) := .cons rfl (r.append hd)
  have len : (Value.ref (s.heap.objs.size + 1) :: us ++ ds).length = ps.length := by
    have q := rr.length
    rw [F.len _ _ _ _ hq] at q
    exact q.symm
  refine wpAny_call (make_map (f := f) I.kIn M.makes M.init (beq_iff_eq.mp M.fn) (codeAny_mono (F.run _ X.stack _ _ ⟨Value.ref (s.heap.objs.size + 1) :: us, []⟩ (Value.ref (s.heap.objs.size + 1) :: (us ++ ds)) _ _ (Es σ) (hr.make C us [])
    (J.env0.make C us []) (hb _ (Value.ref (s.heap.objs.size + 1) :: us) J.kIn len) rr hq) fun r2 s2 hq2 => ?_))
  cases r2 with
  | error er => exact hx pins _ _ er s2 J hq2
  | ok fl =>
    cases fl with
    | next => exact False.elim hq2
    | brk => exact False.elim hq2
    | cont => exact False.elim hq2
    | ret u =>
      obtain ⟨v, H3, J3, rv, ev, q3⟩ := J.after hq2
      subst ev
      exact ⟨rv, V.ref (s.heap.objs.size + 1), H3, J3, rfl, q3⟩
def tMakeS (C : Addr) (sp : Sp) (dvs : List V) (Es : L2.St → XK) (t : TA) : TE := fun σ H Q => t σ H fun vs H1 => ∀ a dx, H1 a = none → H1 dx = none → dx ≠ a → sp (.ref a :: (vs ++ dvs)) (upd (upd H1 dx (.own a)) a (.ins C dx [])) (fun v H2 => v = .non ∧ Q (.ref a) H2) (Es σ)
theorem pe_makeS {t : TA} (M : Mk X.K C f) (F : FnOk X.prog X.w X.K X.mg X.base CX k f fd ps sp) (hr : Room (k + 1) X.A) (hg : Gl X x) (hm : X.mg x = some (.ref C)) (hb : Binds X.K fd ps ds) (hd : Vals dvs ds) (hx : ∀ σ, PassesAt CX X σ (Es σ))
    (ha : PA X (e :: es) t) (hdb : (x == ("__debug__" : Str)) = false := by decide) (he : starEach (e :: es) X.env = (false, eval e X.env) :: starEach es X.env := by rfl) (hpl : (backTo pos (starEach es X.env)).any (·.1) = false := by rfl) :
    PE X (.Call (.Name x p) (e :: es) [] pos) (tMakeS C sp dvs Es t) := ⟨fun pins s σ H Q I h =>
  wpAny_Call_Name_kw (ld_glob I hg hm (PySem.W.callWith_K (h₀ := X.base) I.ok.mod.kin M.kp (thn (ha.run pos pins s σ H _ I h) fun us s1 ⟨vs, H1, J, r, q⟩ => ⟨J.kIn, run_makeS M F hr hb hd (hx σ) J r q⟩) he hpl) hdb)⟩
theorem e_makeS {W : WX} (c : MakN X.prog X.w X.K X.mg X.base (L2.CX X.prog X.w) k x C sp) (tk : Takes X W) (hr : Room j X.A) (hk : k + 1 ≤ j)
    (h : WA X (e :: es) σ H fun vs H1 => ∀ a dx, H1 a = none → H1 dx = none → dx ≠ a → sp (.ref a :: vs) (upd (upd H1 dx (.own a)) a (.ins C dx [])) (fun v H2 => v = .non ∧ Q (.ref a) H2) fun cls d H' => W cls d σ H') (hg : Gl X x := by rfl)
    (hdb : (x == ("__debug__" : Str)) = false := by decide) (he : starEach (e :: es) X.env = (false, eval e X.env) :: starEach es X.env := by rfl) (hpl : (backTo pos (starEach es X.env)).any (·.1) = false := by rfl) :
    WE X (.Call (.Name x p) (e :: es) [] pos) σ H Q := by
  obtain ⟨f, fd, ps, F, M, hm, hb⟩ := c.ex
  refine toE (pe_makeS (Es := fun σ cls d H => W cls d σ H) M F (hr.mono hk) hg hm hb .nil (fun σ => passAt tk σ) pA hdb he hpl) (WA.mono h fun vs H1 q a dx n1 n2 n3 => ?_)
  rw [List.append_nil]; exact q a dx n1 n2 n3
end
end My

namespace K02
open PySem PySem.Spec PyProof.Rows L2 My


abbrev sBent : Stmt := top 27
abbrev sRight : Stmt := top 28
theorem szEs_perm {ds es : List PyData} (h : es.Perm ds) : szEs es = szEs ds := by
  induction h with
  | nil => rfl
  | cons x _ ih => rw [szEs, szEs, ih]
  | swap x y l => rw [szEs, szEs, szEs, szEs]; omega
  | trans _ _ h1 h2 => exact h1.trans h2
theorem depthAll_le : ∀ {ds : List PyData} {n : Nat}, (∀ d ∈ ds, d.depth ≤ n) → PyData.depthAll ds ≤ n
  | [], n, _ => by simp [PyData.depthAll]
  | d :: ds, n, h => by
    rw [PyData.depthAll]
    exact Nat.max_le.mpr ⟨h d List.mem_cons_self, depthAll_le fun x m => h x (List.mem_cons_of_mem _ m)⟩
/-- small data -/
def okM (d : PyData) : Prop := okE d = true ∧ szE d ≤ 1000000 ∧ d.depth ≤ 20
theorem okM.s {d : PyData} (h : okM d) : okS d = true := okS_iff.mpr ⟨h.1, by have := h.2.1; omega, by have := h.2.2; omega⟩
theorem okM.seq {d : PyData} (h : okM d) : okM (.tuple (seqD d)) := by
  cases d with
  | tuple ds => exact h
  | list ds => exact h
  | _ => exact ⟨rfl, (by show szE (.tuple []) ≤ _; decide), (by show (PyData.tuple []).depth ≤ _; simp [PyData.depth, PyData.depthAll])⟩
theorem okM.perm {ds es : List PyData} (h : okM (.tuple ds)) (p : es.Perm ds) : okM (.tuple es) := by
  obtain ⟨h1, h2, h3⟩ := h
  have h1' : okEs ds = true := h1
  refine ⟨?_, ?_, ?_⟩
  · show okEs es = true
    exact okEs_of fun d m => okEs_mem h1' d (p.mem_iff.mp m)
  · have e : szE (.tuple es) = szE (.tuple ds) := by show szEs es + 5 = szEs ds + 5; rw [szEs_perm p]
    rw [e]; exact h2
  · rw [PyData.depth] at h3 ⊢
    have : PyData.depthAll es ≤ PyData.depthAll ds := depthAll_le fun d m => depth_mem (p.mem_iff.mp m)
    omega
theorem okM.two {a b : PyData} (ha : okM a) (hb : okM b) : okS (.tuple [a, b]) = true := by
  obtain ⟨a1, a2, a3⟩ := ha
  obtain ⟨b1, b2, b3⟩ := hb
  refine okS_iff.mpr ⟨?_, ?_, ?_⟩
  · show okEs [a, b] = true
    exact okEs_of fun d m => by
      rcases List.mem_cons.mp m with rfl | m
      · exact a1
      · rw [List.mem_singleton.mp m]; exact b1
  · show szE a + 2 + (szE b + 2 + 0) + 5 ≤ 16000000
    omega
  · have : PyData.depthAll [a, b] ≤ 20 := depthAll_le fun d m => by
      rcases List.mem_cons.mp m with rfl | m
      · exact a3
      · rw [List.mem_singleton.mp m]; exact b3
    rw [PyData.depth]
    omega
theorem okM.twoL {a b : PyData} (ha : okM a) (hb : okM b) : okS (.list [a, b]) = true := okM.two ha hb
/-- what changes: the two lists that were handed in -/
def Frm (v1 v2 : V) (H H' : Hp) : Prop := ∀ b o, H b = some o → ((∀ xs, o ≠ .lst xs) ∨ (V.ref b ≠ v1 ∧ V.ref b ≠ v2)) → H' b = some o
theorem Frm.of {v1 v2 : V} {H H' : Hp} (s : Same H H') : Frm v1 v2 H H' := fun b o e _ => s b o e
theorem CatAt.keep {C CH : Addr} {H H' : Hp} {c : Addr} {ts : List Str} {cs : List PyData} (h : CatAt C CH H c ts cs) (k : ∀ b o, (∀ xs, o ≠ .lst xs) → H b = some o → H' b = some o) : CatAt C CH H' c ts cs := by
  obtain ⟨dx, fs, t, kk, h, h1, h2, h3, h4, h5, h6, dh, fh, h7, h8, h9⟩ := h
  have tp : Tup H H' := fun b xs e => k b _ (fun _ z => by cases z) e
  refine ⟨dx, fs, t, kk, h, k _ _ (fun _ z => by cases z) h1, h2, h3.mono tp, h4, h5.mono tp, h6, dh, fh, k _ _ (fun _ z => by cases z) h7, h8, fun n m => ?_⟩
  obtain ⟨e, a1, a2⟩ := h9 n m
  exact ⟨e, a1, k _ _ (fun _ z => by cases z) a2⟩
def spRight : Sp := fun vs H Q _ => ∃ (S : Addr → Prop) (v1 v2 : V) (d1 d2 : PyData), vs = [v1, v2] ∧ (∀ a, S a → H a ≠ none) ∧ DG S H v1 d1 ∧ DG S H v2 d2 ∧ okM d1 ∧ okM d2 ∧ okSteps d2 ∧ (seqD d1).length ≤ 60 ∧ ∀ H', Frm v1 v2 H H' → Q (.bl true) H'
structure Be (K : PySem.W.Frag) (mg : Str → Option Value) (CB CI : Addr) : Prop where
  gB : mg "BoundError" = some (.ref CB)
  gI : mg "InvalidCatalog" = some (.ref CI)
  gV : mg "ValueError" = none
  xI : ExcC K CI
  me : PySem.W.exmOne K (.ref CI) (.ref CB) = some true
  kv : PySem.W.kitOne K (.ref CI) (.type "ValueError") = some true
theorem Be.ki {K : PySem.W.Frag} {mg : Str → Option Value} {CB CI : Addr} (G : Be K mg CB CI) : PySem.W.kitOne K (.ref CI) (.ref CI) = some true := if_pos (beq_self_eq_true _)
theorem shaped_okS {d : PyData} (h : okS d = true) (l : d.canLay0 = true) : SeqAt.shaped d = true := by
  obtain ⟨_, _, h3⟩ := okS_iff.mp h
  show (d.canLay0 && decide (d.depth ≤ 64)) = true
  rw [l, decide_eq_true (by omega)]; rfl
/-- lists stay lists and grow by at most one at each step -/
def Lp (v1 v2 : V) (i : Nat) (H H' : Hp) : Prop := Frm v1 v2 H H' ∧ ∀ b xs, (V.ref b = v1 ∨ V.ref b = v2) → H b = some (.lst xs) → ∃ ys, H' b = some (.lst ys) ∧ ys.length ≤ 60 + i
theorem Frm.non {v1 v2 : V} {H H' : Hp} (f : Frm v1 v2 H H') : ∀ b o, (∀ xs, o ≠ .lst xs) → H b = some o → H' b = some o := fun b o n e => f b o e (.inl n)
theorem Frm.trans {v1 v2 : V} {H H' H2 : Hp} (f : Frm v1 v2 H H') (g : Frm v1 v2 H' H2) : Frm v1 v2 H H2 := fun b o e n => g b o (f b o e n) n
theorem Lp.succ {v1 v2 : V} {i : Nat} {H H' : Hp} (l : Lp v1 v2 i H H') : Lp v1 v2 (i + 1) H H' := ⟨l.1, fun b xs hv hb => by obtain ⟨ys, h1, h2⟩ := l.2 b xs hv hb; exact ⟨ys, h1, by omega⟩⟩
theorem Lp.app {v1 v2 y : V} {i : Nat} {H H' H2 : Hp} {a : Addr} {xs ys : List V} (l : Lp v1 v2 i H H') (hv : V.ref a = v1 ∨ V.ref a = v2) (h : H a = some (.lst xs)) (h2 : H2 a = some (.lst ys)) (s : Same H' H2) : Lp v1 v2 (i + 1) H (L2.upd H2 a (.lst (ys ++ [y]))) := by
  obtain ⟨l1, l2⟩ := l
  refine ⟨fun b o e n => ?_, fun b zs hv2 hb => ?_⟩
  · have nb : b ≠ a := fun z => by
      rcases n with n | ⟨n1, n2⟩
      · rw [z, h] at e; cases e; exact n _ rfl
      · rw [z] at n1 n2
        rcases hv with hv | hv
        · exact n1 hv
        · exact n2 hv
    rw [upd_ne nb]
    exact s _ _ (l1 b o e n)
  · by_cases z : b = a
    · subst z
      obtain ⟨ys', h3, h4⟩ := l2 b zs hv2 hb
      have := s _ _ h3
      rw [h2] at this
      cases this
      exact ⟨_, upd_same, by rw [List.length_append]; show ys.length + 1 ≤ _; omega⟩
    · obtain ⟨ys', h3, h4⟩ := l2 b zs hv2 hb
      exact ⟨ys', by rw [upd_ne z]; exact s _ _ h3, by omega⟩
theorem ty_frm {K : PySem.W.Frag} {S : Addr → Prop} {H H' : Hp} {v : V} {d : PyData} (g : DG S H v d) (k : ∀ b o, (∀ xs, o ≠ .lst xs) → H b = some o → H' b = some o) (l : ∀ b xs, V.ref b = v → H b = some (.lst xs) → ∃ ys, H' b = some (.lst ys)) : TyX K H' v (.type (tyD d)) := by
  cases g with
  | non => exact .base .non
  | bl b => exact .base (.bl b)
  | int i => exact .base (.int i)
  | str x => exact .base (.str x)
  | tup h _ => exact .base (.tup (k _ _ (fun _ z => by cases z) h))
  | lst h _ _ => obtain ⟨ys, hy⟩ := l _ _ rfl h; exact .base (.lst hy)
  | dct h _ _ => exact .base (.dK (k _ _ (fun _ z => by cases z) h))
theorem len_of {S : Addr → Prop} {H : Hp} {v : V} {d : PyData} {b : Addr} {xs : List V} (g : DG S H v d) (hv : V.ref b = v) (e : H b = some (.lst xs)) (l : (seqD d).length ≤ 60) : xs.length ≤ 60 := by
  cases g with
  | tup h _ => cases hv; rw [h] at e; cases e
  | lst h _ hs => cases hv; rw [h] at e; cases e; rw [hs.length]; exact l
  | dct h _ _ => cases hv; rw [h] at e; cases e
  | _ => cases hv
abbrev nRight : List Str := ["_law_sorts", "_law_steps_here", "_law_told", "_law_caught", "_law_found", "e", "_law_due", "_law_part"]
section
variable {P : Program} {w : World} {K : PySem.W.Frag} {mg : Str → Option Value} {base : Heap}
theorem scRight : FnScope nRight ["_law_sorts", "_law_steps_here"] (defScope sRight) := ⟨rfl, rfl, rfl, by decide +kernel, rfl, by decide +kernel, by decide +kernel⟩
theorem ok_right {C CH CB CI f : Addr} {fd : FuncData} (F : Fun K "_law_right" "_law_right" sRight f fd) (G : Bf w K mg) (hrp : mg "repr" = none) (I : Bi K mg C) (Ge : Be K mg CB CI) (cC : MakN P w K mg base (L2.CX P w) 5 "Catalog" C (spCat C CH CI)) (cF : CalN P w K mg base 2 "_law_fits" (spR RFits))
    (pN : PrpN P w K mg base 1 C "next_number" (spNum C CH)) (pAl : PrpN P w K mg base 1 C "all_numbers" (spAll C CH)) (pT : PrpN P w K mg base 1 C "types" (spTys C CH)) (pC : PrpN P w K mg base 1 C "casts" (spCas C CH)) : FnG P w K mg base 8 f fd ["_law_sorts", "_law_steps_here"] spRight := by
  refine Fun.okG F scRight (fun vs H Q E h => by obtain ⟨S, a, b, c, d, rfl, _⟩ := h; rfl) (fun cdv B out s H vs Q E hr hG h => ?_)
  obtain ⟨S, v1, v2, d1, d2, rfl, dom, g1, g2, m1, m2, ok2, l1, q⟩ := h
  have ok1 := m1.s
  have okL : okS (.list [d1, d2]) = true := m1.twoL m2
  have rL := okS_repr okL
  have slr : ∀ {H' : Hp} (t3 t4 t5 t6 t7 t8 : Option V), Same H H' → SL S H' [some v1, some v2, t3, t4, t5, t6, t7, t8] [some d1, some d2, none, none, none, none, none, none] := fun {H'} t3 t4 t5 t6 t7 t8 s => ⟨in_same s dom, fun i d q => (by
    match i, q with
    | 0, q => cases q; exact ⟨v1, rfl, g1.same s⟩
    | 1, q => cases q; exact ⟨v2, rfl, g2.same s⟩
    | 2, q => cases q
    | 3, q => cases q
    | 4, q => cases q
    | 5, q => cases q
    | 6, q => cases q
    | 7, q => cases q
    | n + 8, q => cases q), rfl⟩
  refine l_cons (toS (ps_par3 (i := 2) (j := 3) (l := 4) rfl scRight.nd rfl rfl rfl (by decide) (by decide) (by decide) rfl rfl rfl pA rfl) (a_cons (e_reprA hrp hG hr.units (ed_go (d_lst (ad_cons (d_var 0) (ad_cons (d_var 1) ad_nil)) (by show 2 ≤ 200000; decide)) (slr _ _ _ _ _ _ (Same.refl _)) fun v H2 s0 gl => ⟨S, .list [d1, d2], gl, rL.1, rL.2.1, rL.2.2, a_cons (e_non (a_cons (e_non (a_nil ⟨_, _, _, rfl, ?_⟩))))⟩))))
  show WL _ _ _ [some v1, some v2, some (.str (PyData.list [d1, d2]).shown), some .non, some .non, none, none, none] H2
  -- the try
  refine l_cons (WS.cut (P := fun σ H3 => Same H H3 ∧ ((catB d1 d2 = true ∧ ∃ c, σ = [some v1, some v2, some (.str (PyData.list [d1, d2]).shown), some .non, some (.ref c), none, none, none] ∧ CatAt C CH H3 c (srt (zsOf d1)) (srtD (seqD d2))) ∨
    (catB d1 d2 = false ∧ ∃ a, σ = [some v1, some v2, some (.str (PyData.list [d1, d2]).shown), some (.ref a), some .non, none, none, none] ∧ H3 a = some (ExO a (.ref CI))))) (s_try_hold (i := 5) (j := 3) rfl rfl rfl scRight.nd rfl rfl (by decide) rfl rfl ⟨rfl, by decide, .inl Ge.gB⟩ (fun pn xe tx po => ?_)) ?_)
  · refine l_one (s_set 4 (e_makeS cC tx hr (by decide) (a_cons (e_var 0 rfl (a_cons (e_var 1 rfl (a_nil fun c dx n1 n2 n3 => ?_)))))) scRight.nd)
    have sN : Same H2 (L2.upd H2 dx (.own c)) := same_new n2
    have n1' : (L2.upd H2 dx (.own c)) c = none := by rw [upd_ne n3.symm]; exact n1
    have sM : Same H2 (L2.upd (L2.upd H2 dx (.own c)) c (.ins C dx [])) := sN.trans (same_new n1')
    refine ⟨And1 S c, c, dx, v1, v2, d1, d2, rfl, upd_same, .inr rfl, fun a ha => ?_, DG.and1 n1' ((g1.same s0).same sN), DG.and1 n1' ((g2.same s0).same sN), ok1, ok2, fun hb H3 kp ct => ⟨rfl, fun b o e => ?_, .inl ⟨hb, c, rfl, ct⟩⟩, fun hb H3 sE => ⟨Ge.me, rfl, fun a ha => ⟨fun b o e => ?_, .inr ⟨hb, a, rfl, upd_same⟩⟩⟩⟩
    · rcases ha with ha | ha
      · exact in_same (s0.trans sM) dom a ha
      · rw [ha, upd_same]; exact fun z => by cases z
    · have e2 := s0 b o e
      exact kp b o (fun z => by rw [z, n1] at e2; cases e2) (sM b o e2)
    · have e2 := sE b o (sM b o (s0 b o e))
      rw [upd_ne (fun z => by rw [z, ha] at e2; cases e2)]; exact e2
  rintro σ H3 ⟨s3, hcase⟩
  have σ3 : ∃ t4 t5, σ = [some v1, some v2, some (.str (PyData.list [d1, d2]).shown), t4, t5, none, none, none] := by
    rcases hcase with ⟨_, c, rfl, _⟩ | ⟨_, a, rfl, _⟩ <;> exact ⟨_, _, rfl⟩
  obtain ⟨t4, t5, rfl⟩ := σ3
  -- the arguments are as they were
  refine l_cons (s_if (t_ne (e_reprA hrp hG hr.units (ed_go (d_lst (ad_cons (d_var 0) (ad_cons (d_var 1) ad_nil)) (by show 2 ≤ 200000; decide)) (slr _ _ _ _ _ _ s3) fun v H4 s4 gl => ⟨S, .list [d1, d2], gl, rL.1, rL.2.1, rL.2.2, e_var 2 rfl ⟨rfl, ?_⟩⟩))))
  rw [decide_eq_true rfl]
  refine ⟨(fun h => by cases h), fun _ => l_nil ?_⟩
  have s34 := s3.trans s4
  -- the law's own judgement
  refine l_cons (s_if ((td_not (td_val (d_callR (d := .bool (catB d1 d2)) cF hr (by decide) (ad_cons (d_var 0) (ad_cons (d_var 1) ad_nil)) ⟨d1, d2, rfl, ok1, ok2, rfl⟩))) S _ H4 _ (slr _ _ _ _ _ _ s34) fun H5 s5 => ?_))
  rcases hcase with ⟨hb, c, eσ, ct⟩ | ⟨hb, a, eσ, hx⟩
  case inr =>
    injection eσ with _ eσ; injection eσ with _ eσ; injection eσ with _ eσ; injection eσ with e4 eσ; injection eσ with e5 _
    subst e4 e5
    rw [hb]
    refine ⟨fun _ => ?_, (fun h => by cases h)⟩
    have hx5 := s5 _ _ (s4 _ _ hx)
    refine l_one (s_ret (e_and (e_isO G.isi Ge.xI Ge.gI Ge.ki (e_var 3 rfl ⟨a, rfl, hx5, true, rfl, (fun _ => ?_), fun h => by cases h⟩))))
    exact e_one (e_isOB G.isi Ge.xI Ge.gV (ExcClass.boot excClass_ValueError) (by decide) Ge.kv (e_var 3 rfl ⟨a, rfl, hx5, q _ (Frm.of (s34.trans s5))⟩))
  case inl =>
    injection eσ with _ eσ; injection eσ with _ eσ; injection eσ with _ eσ; injection eσ with e4 eσ; injection eσ with e5 _
    subst e4 e5
    rw [hb]
    refine ⟨(fun h => by cases h), fun _ => l_nil ?_⟩
    have ct5 := ct.keep (H' := H5) fun b o _ e => s5 _ _ (s4 _ _ e)
    have s15 := s34.trans s5
    -- its number and its numbers
    obtain ⟨dx, fs, _, _, _, hins, _⟩ := id ct5
    refine l_cons (s_if (t_w (w_or (t_isN (e_var 4 rfl ?_)))))
    refine ⟨(fun h => absurd (of_decide_eq_true h) (fun z => by cases z)), fun _ => w_or1 (t_neD hr.units (e_tup (a_cons (e_prop pN I.cl hr (by decide) (e_var 4 rfl ⟨c, dx, fs, rfl, hins, c, _, _, rfl, ct5, ?_⟩)))))⟩
    refine a_cons (e_prop pAl I.cl hr (by decide) (e_var 4 rfl ⟨c, dx, fs, rfl, hins, c, _, _, rfl, ct5, fun r hr1 => ?_⟩))
    refine a_nil ⟨by show 2 ≤ sizeLine; decide, fun u hu => ?_⟩
    have sr : Same H5 (L2.upd H5 r (.lst [])) := same_new hr1
    have su := same_new (o := .tup [V.int 0, .ref r]) hu
    have hru : (L2.upd (L2.upd H5 r (.lst [])) u (.tup [V.int 0, .ref r])) r = some (.lst []) := su _ _ upd_same
    refine e_tup (a_cons (e_int (a_cons (e_lst (a_nil ⟨Nat.zero_le _, fun y hy => a_nil ⟨by show 2 ≤ sizeLine; decide, fun x hx => ?_⟩⟩)))))
    have sy := same_new (o := .lst []) hy
    have sx := same_new (o := .tup [V.int 0, .ref y]) hx
    refine ⟨.tuple [.int 0, .list []], .tuple [.int 0, .list []], .tup (.inl (.inl (sx _ _ (sy _ _ upd_same)))) (.cons (.int 0) (.cons (.lst (.inl (.inl (sx _ _ (sy _ _ hru)))) .nil) .nil)), .tup (.inl (.inl upd_same)) (.cons (.int 0) (.cons (.lst (.inl (.inl (sx _ _ upd_same))) .nil) .nil)), rfl, rfl, ?_⟩
    refine ⟨(fun h => by cases h), fun _ => l_nil ?_⟩
    have s6 := (((s15.trans sr).trans su).trans sy).trans sx
    have ct6 := ct5.keep (H' := L2.upd (L2.upd (L2.upd (L2.upd H5 r (.lst [])) u (.tup [V.int 0, .ref r])) y (.lst [])) x (.tup [V.int 0, .ref y])) fun b o _ e => sx _ _ (sy _ _ (su _ _ (sr _ _ e)))
    generalize L2.upd (L2.upd (L2.upd (L2.upd H5 r (.lst [])) u (.tup [V.int 0, .ref r])) y (.lst [])) x (.tup [V.int 0, .ref y]) = H6 at s6 ct6
    -- what it should tell
    have hb' := hb
    unfold catB at hb'
    rw [Bool.and_eq_true] at hb'
    obtain ⟨ht, hca⟩ := hb'
    obtain ⟨sq1, e1, l1', l2', _, _⟩ := typB_iff ht
    have hca' := hca
    unfold casB at hca'
    rw [Bool.and_eq_true, Bool.and_eq_true] at hca'
    obtain ⟨sq2, al2, _⟩ := hca'
    obtain ⟨e2, _⟩ := pairs_of ok2.2.2 al2
    obtain ⟨pa, pb, pc⟩ := pairs_ok e2
    have dT : ∀ {X : Cx} {ρ : Rho} {e : Expr} {p p' pos pos' : Pos}, ED X ρ e d1 → X.mg "sorted" = none → X.mg "tuple" = none → Gl X "sorted" → Gl X "tuple" → starEach [e] X.env = (false, eval e X.env) :: starEach [] X.env → starEach [.Call (.Name "sorted" p) [e] [] pos] X.env = (false, eval (.Call (.Name "sorted" p) [e] [] pos) X.env) :: starEach [] X.env →
        ED X ρ (.Call (.Name "tuple" p') [.Call (.Name "sorted" p) [e] [] pos] [] pos') (.tuple ((srt (zsOf d1)).map PyData.str)) := fun {X ρ e p p' pos pos'} he m1 m2 g1 g2 s1 s2 => by
      rcases seq_cases sq1 with q | q
      · exact d_tupleD m2 (d_sortedT m1 (he.cast (by rw [← e1]; exact q)) (by omega) g1 s1) rfl g2 s2
      · exact d_tupleD m2 (d_sortedL m1 (he.cast (by rw [← e1]; exact q)) (by omega) g1 s1) rfl g2 s2
    have okT : okM (.tuple ((srt (zsOf d1)).map PyData.str)) := by
      have := m1.seq
      rw [e1] at this
      exact this.perm ((srt_perm _).map _)
    have okC : okM (.tuple (srtD (seqD d2))) := m2.seq.perm (srtD_perm _)
    have rD := okS_repr (okT.two okC)
    refine l_cons (s_set 6 (e_reprA hrp hG hr.units (ed_go (d_tup (ad_cons (dT (d_var 0) G.sorted G.tuple rfl rfl rfl rfl) (ad_cons (d_tupleD G.tuple (d_sortD G.sorted hr.units (d_var 1) sq2 pa pb (by have := ok2.2.1; omega) pc) rfl) ad_nil)) (by show 2 ≤ 200000; decide)) (slr _ _ _ _ _ _ s6) fun v H7 s7 gd => ⟨S, _, gd, rD.1, rD.2.1, rD.2.2, ?_⟩)) scRight.nd)
    have s07 := s6.trans s7
    have ct7 := ct6.keep (H' := H7) fun b o _ e => s7 _ _ e
    show WL _ _ _ [some v1, some v2, some (.str (PyData.list [d1, d2]).shown), some .non, some (.ref c), none, some (.str (PyData.tuple [.tuple ((srt (zsOf d1)).map PyData.str), .tuple (srtD (seqD d2))]).shown), none] H7
    have F0 : Frm v1 v2 H H7 := Frm.of s07
    have big1 : (seqD d1).length ≤ 60 := l1
    have big2 : (seqD d2).length ≤ 60 := ok2.2.1
    have lens : ∀ b xs, (V.ref b = v1 ∨ V.ref b = v2) → H b = some (.lst xs) → xs.length ≤ 60 := fun b xs hv e => by
      rcases hv with hv | hv
      · exact len_of g1 hv e big1
      · exact len_of g2 hv e big2
    refine l_cons (s_for (pi_tup pE) (pg_name (i := 7) scRight.nd rfl (.inl rfl)) (e_tup (a_cons (e_var 0 rfl (a_cons (e_var 1 rfl (a_nil ⟨by show 2 ≤ sizeLine; decide, fun t ht => ⟨t, rfl, ⟨[v1, v2], .inl (.inl upd_same)⟩, for_tup (xs := [v1, v2]) (fun i σ' H' => i ≤ 2 ∧ H' t = some (.tup [v1, v2]) ∧ Lp v1 v2 i H H' ∧ (∀ b o, (∀ xs, o ≠ .lst xs) → H7 b = some o → H' b = some o) ∧
      ∃ u, σ' = [some v1, some v2, some (.str (PyData.list [d1, d2]).shown), some .non, some (.ref c), none, some (.str (PyData.tuple [.tuple ((srt (zsOf d1)).map PyData.str), .tuple (srtD (seqD d2))]).shown), u]) ⟨Nat.zero_le _, upd_same, ?_, fun b o _ e => (same_new ht) b o e, none, rfl⟩ (fun i σ' H' _ p => .inl (.inl p.2.1)) ?_ ?_⟩⟩)))))) PassesOwn.never)
    · refine ⟨F0.trans (Frm.of (same_new ht)), fun b xs hv hb => ⟨xs, (same_new ht) _ _ (s07 _ _ hb), ?_⟩⟩
      have := lens b xs hv hb
      omega
    · rintro i y σ' H' hy ⟨li, ht', L, kp, u, rfl⟩
      have hi : i < 2 := (List.getElem?_eq_some_iff.mp hy).1
      have hyv : y = v1 ∨ y = v2 := by
        match i, hy with
        | 0, hy => exact .inl (Option.some.inj hy).symm
        | 1, hy => exact .inr (Option.some.inj hy).symm
        | n + 2, hy => cases hy
      have ex : ∃ d, DG S H y d := by
        rcases hyv with rfl | rfl
        · exact ⟨_, g1⟩
        · exact ⟨_, g2⟩
      obtain ⟨d, gy⟩ := ex
      have hv : ∀ b, V.ref b = y → (V.ref b = v1 ∨ V.ref b = v2) := fun b e => by
        rcases hyv with h | h
        · exact .inl (e.trans h)
        · exact .inr (e.trans h)
      have ty := ty_frm (K := K) gy L.1.non (fun b xs e1 e2 => by obtain ⟨ys, h, _⟩ := L.2 b xs (hv b e1) e2; exact ⟨ys, h⟩)
      show WL _ _ _ [some v1, some v2, some (.str (PyData.list [d1, d2]).shown), some .non, some (.ref c), none, some (.str (PyData.tuple [.tuple ((srt (zsOf d1)).map PyData.str), .tuple (srtD (seqD d2))]).shown), some y] H'
      refine l_one (s_if (t_tru (e_callB call_isi G.isi PyProof.Rows.boot_isinstance (a_cons (e_var 7 rfl (a_cons (e_bltn (v := .ty "list") G.list PyProof.Rows.boot_list rfl (a_nil ⟨y, .ty "list", .type (tyD d), .type "list", isLst d, rfl, .ty "list", ty, kit_ty (kit_lst d), isLst d, rfl, fun hl => ?_, fun _ => l_nil ?_⟩))))) rfl (by decide) (by decide) rfl rfl)))
      · cases gy with
        | @lst a xs ds h n hs =>
          obtain ⟨ys, hys, ly⟩ := L.2 a xs (hv a rfl) h
          refine l_one (s_app (e_var 7 rfl ⟨⟨a, ys, rfl, .inl (.inl hys)⟩, e_tup (a_cons (e_str (a_cons (e_str (a_nil ⟨by show 2 ≤ sizeLine; decide, fun q hq => ⟨a, ys, rfl, (same_new hq) _ _ hys, Nat.lt_of_le_of_lt ly (Nat.lt_of_le_of_lt (show 60 + i ≤ 63 by omega) (by decide)), ?_⟩⟩)))))⟩))
          have sq := same_new (o := .tup [V.str "later", .str "later"]) hq
          refine ⟨hi, ?_, L.app (hv a rfl) h (sq _ _ hys) sq, fun b o no e => ?_, some (.ref a), rfl⟩
          · rw [upd_ne (fun e => by rw [e, hys] at ht'; cases ht')]; exact sq _ _ ht'
          · rw [upd_ne (fun e2 => by have z := kp b o no e; rw [e2, hys] at z; cases z; exact no _ rfl)]; exact sq _ _ (kp b o no e)
        | _ => cases hl
      · exact ⟨hi, ht', L.succ, kp, some y, rfl⟩
    rintro σ' H8 ⟨_, _, L, kp, u, rfl⟩
    have ct8 := ct7.keep kp
    obtain ⟨dx8, fs8, _, _, _, hins8, _⟩ := id ct8
    refine l_one (s_ret (e_cmp op_eq (e_reprA hrp hG hr.units (e_tup (a_cons (e_prop pT I.cl hr (by decide) (e_var 4 rfl ⟨c, dx8, fs8, rfl, hins8, c, _, _, rfl, ct8, fun tv dtv => ?_⟩)))))))
    refine a_cons (e_prop pC I.cl hr (by decide) (e_var 4 rfl ⟨c, dx8, fs8, rfl, hins8, c, _, _, rfl, ct8, fun kv dkv => a_nil ⟨by show 2 ≤ sizeLine; decide, fun p hp => ?_⟩⟩))
    have sp8 := same_new (o := .tup [tv, kv]) hp
    refine ⟨fun _ => False, PyData.tuple [.tuple ((srt (zsOf d1)).map PyData.str), .tuple (srtD (seqD d2))], .tup upd_same (.cons (DG.of (dtv.mono (My.Same.tups sp8))) (.cons (DG.of (dkv.mono (My.Same.tups sp8))) .nil)), rD.1, rD.2.1, rD.2.2, e_var 6 rfl ?_⟩
    unfold rEq
    rw [decide_eq_true rfl]
    exact ⟨rfl, q _ (L.1.trans (Frm.of sp8))⟩
end
end K02

namespace K02
open PySem PySem.Spec PyProof.Rows L2 My


def odd1 : List PyData := [.none, .bool true, .int 0, .str "", .str "text", .str "In", .str "in", .tuple [], .list [], .tuple [.str "text"], .tuple [.str "text", .str "text"], .dict [], .str "abcdefghi", .list [.str "a"]]
def odd2 : List PyData := [.tuple [.str "text", .str "word", .str "num"], .list [.str "text", .str "word"]]
def odds : List PyData := odd1 ++ odd2
def BentD (ds : List PyData) (d : PyData) : Prop := d = .tuple ds ∨ d = .list ds ∨ d ∈ odds ∨ ∃ o, o ∈ odds ∧ d = .list (ds ++ [o])
def spBent : Sp := fun vs H Q _ => ∃ p L n a xs ds, vs = [.ref p, .ref a] ∧ Pen H p L n ∧ n + 2 < 2 ^ 39 ∧ H a = some (.lst xs) ∧ a ≠ p ∧ DTs H xs ds ∧ ds.length ≤ 50 ∧
  ∀ v d H', But p H H' → Pen H' p L (n + 2) → DG (fun b => H b ≠ none) H' v d → BentD ds d → Q v H'
theorem eg_go {X : Cx} {ρ : Rho} {e : Expr} {Φ : PyData → Prop} {c : Nat} {p L : Addr} {S : Addr → Prop} {σ : L2.St} {H : Hp} {n : Nat} {Q : VK} (h : EG X ρ e Φ c) (g : GS p L S H n σ ρ) (hn : n + c < 2 ^ 39) (q : ∀ v d H', But p H H' → Pen H' p L (n + c) → DG S H' v d → Φ d → Q v H') : WE X e σ H Q := h p L S σ H n Q g hn q
abbrev nBent : List Str := ["_law_pen_here", "_law_thing_here", "_law_odd", "_law_road", "_law_one"]
section
variable {P : Program} {w : World} {K : PySem.W.Frag} {mg : Str → Option Value} {base : Heap}
theorem scBent : FnScope nBent ["_law_pen_here", "_law_thing_here"] (defScope sBent) := ⟨rfl, rfl, rfl, by decide +kernel, rfl, by decide +kernel, by decide +kernel⟩
theorem ok_bent {f : Addr} {fd : FuncData} (F : Fun K "_law_bent" "_law_bent" sBent f fd) (G : Bf w K mg) (cD : CalN P w K mg base 2 "_law_draw" spDraw) : FnOk P w K mg base CX0 3 f fd ["_law_pen_here", "_law_thing_here"] spBent := by
  refine Fun.okW F scBent (fun vs H Q E h => by obtain ⟨p, L, n, a, xs, ds, rfl, _⟩ := h; rfl) (fun cdv B out s H vs Q E hr h => ?_)
  obtain ⟨p, L, n, a, xs, ds, rfl, P0, hn, ha, nap, gs, ld, q⟩ := h
  have sp0 : H p ≠ none := by obtain ⟨ys, h⟩ := P0.p; rw [h]; exact fun z => by cases z
  have g0 : GS p L (fun b => H b ≠ none) H n [some (.ref p), some (.ref a), none, none, none] [none, none, none, none, none] := ⟨⟨fun _ h => h, fun i d q => (by
    match i, q with
    | 0, q => cases q
    | 1, q => cases q
    | 2, q => cases q
    | 3, q => cases q
    | 4, q => cases q
    | n + 5, q => cases q), rfl⟩, sp0, P0, rfl⟩
  refine l_cons (s_set 2 (ed_go (d_lit (d := .list odd1) (.lst (.cons .non (.cons (.bl _) (.cons (.int _) (.cons (.str _) (.cons (.str _) (.cons (.str _) (.cons (.str _) (.cons (.tup .nil (by decide)) (.cons (.lst .nil (by decide)) (.cons (.tup (.cons (.str _) .nil) (by decide))
    (.cons (.tup (.cons (.str _) (.cons (.str _) .nil)) (by decide)) (.cons .dct0 (.cons (.str _) (.cons (.lst (.cons (.str _) .nil) (by decide)) .nil)))))))))))))) (by show 14 ≤ sizeLine; decide))) g0.sl fun v1 H1 s1 g1 => ?_) scBent.nd)
  have g0 := (g0.same s1).set (i := 2) (by decide) g1
  refine l_cons (s_set 2 (ed_go (d_catL (es := odd2) (d_var 2) (d_lit (.lst (.cons (.tup (.cons (.str _) (.cons (.str _) (.cons (.str _) .nil))) (by decide)) (.cons (.lst (.cons (.str _) (.cons (.str _) .nil)) (by decide)) .nil)) (by show 2 ≤ sizeLine; decide))) (by show 14 + 2 ≤ 1000; decide)) g0.sl fun v2 H2 s2 g2 => ?_) scBent.nd)
  have g0 := (g0.same s2).set (i := 2) (by decide) g2
  refine l_cons (s_set 3 (eg_go (eg_draw cD hr (by decide) (d_int 5) (by decide) (by decide)) g0 (by omega) fun v3 d3 H3 b3 P3 g3 f3 => ?_) scBent.nd)
  obtain ⟨k, rfl, hk⟩ := f3
  have g0 := (g0.but b3 P3).set (i := 3) (by decide) g3
  cases g3
  refine l_cons (s_set 4 (eg_go (eg_ixL (ds := odds) (d_var 2) (EG.mono (eg_draw cD hr (by decide) (d_lenL G.len (d_var (d := .list odds) 2)) (by show (0 : Int) < 16; decide) (by show (16 : Int) < 1073741824; decide)) (fun d ⟨k, e, h⟩ => ⟨k, e, by have h' : (k : Int) < (16 : Int) := h; show k < 16; omega⟩) (Nat.le_refl _))) g0 (by omega) fun v4 d4 H4 b4 P4 g4 f4 => ?_) scBent.nd)
  have g0 := (g0.but b4 P4).set (i := 4) (by decide) g4
  have b04 : But p H H4 := (((But.of s1).trans (But.of s2)).trans b3).trans b4
  have ha4 := b04 _ _ nap ha
  have gs4 : DTs H4 xs ds := gs.mono (P0.tups b04)
  have P4' : Pen H4 p L (n + 2) := P4
  have nH : ∀ b, H4 b = none → H b = none := fun b e => by
    cases z : H b with
    | none => rfl
    | some o =>
      by_cases zb : b = p
      · obtain ⟨ys, h⟩ := P4'.p; rw [zb, h] at e; cases e
      · rw [b04 _ _ zb z] at e; cases e
  have lx : xs.length = ds.length := gs.length
  refine l_cons (s_if (t_lt (e_var 3 rfl (e_int ⟨(k : Int), 3, rfl, rfl, ?_⟩))))
  refine ⟨fun _ => l_one (s_ret (e_if (t_eq (e_var 3 rfl (e_int ⟨rfl, ?_⟩))))), fun _ => l_nil ?_⟩
  · refine ⟨fun _ => e_tupL G.tuple (e_var 1 rfl ⟨a, xs, rfl, .inl (.inl ha4), fun r hr0 => ?_⟩), fun _ => e_listL G.list (e_var 1 rfl ⟨a, xs, rfl, .inl (.inl (.inl ha4)), fun r hr0 => ?_⟩)⟩
    · exact q _ (.tuple ds) _ (b04.trans (But.of (same_new hr0))) (P4'.same (same_new hr0)) (.tup upd_same (DGs.of (gs4.mono (My.Same.tups (same_new hr0))))) (.inl rfl)
    · exact q _ (.list ds) _ (b04.trans (But.of (same_new hr0))) (P4'.same (same_new hr0)) (.lst upd_same (fun z => z (nH r hr0)) (DGs.of (gs4.mono (My.Same.tups (same_new hr0))))) (.inr (.inl rfl))
  refine l_one (s_ret (e_if (t_eq (e_var 3 rfl (e_int ⟨rfl, fun _ => e_var 4 rfl ?_, fun _ => ?_⟩)))))
  · exact q _ d4 _ b04 P4' g4 (.inr (.inr (.inl f4)))
  refine e_cat (e_listL G.list (e_var 1 rfl ⟨a, xs, rfl, .inl (.inl (.inl ha4)), fun r hr0 => e_lst (a_cons (e_var 4 rfl (a_nil ⟨by show 1 ≤ sizeLine; decide, fun m hm => ?_⟩)))⟩))
  have s5 := same_new (o := .lst xs) hr0
  have s6 := same_new (o := .lst [v4]) hm
  refine ⟨r, m, xs, [v4], rfl, rfl, s6 _ _ upd_same, upd_same, Nat.le_trans (show xs.length + 1 ≤ 100 by omega) (by decide), fun z hz => ?_⟩
  have s7 := same_new (o := .lst (xs ++ [v4])) hz
  have s47 := (s5.trans s6).trans s7
  have hz4 : H4 z = none := by
    cases e : H4 z with
    | none => rfl
    | some o => rw [(s5.trans s6) _ _ e] at hz; cases hz
  exact q _ (.list (ds ++ [d4])) _ (b04.trans (But.of s47)) (P4'.same s47) (.lst upd_same (fun y => y (nH z hz4)) ((DGs.of (gs4.mono (My.Same.tups s47))).append (.cons (g4.same s47) .nil))) (.inr (.inr (.inr ⟨d4, f4, rfl⟩)))
end
end K02

namespace My
open PySem PySem.Spec PyProof.Rows L2
/-! ### comprehensions with one condition, over a list -/
section
variable {X : Cx} {σ : L2.St} {H : Hp} {Q : VK} {pos pt : Pos} {elt iter cond : Expr} {scope : Scope} {x : Str} {j : Nat} {ρ : Rho} {ds : List PyData}
theorem e_lcLI (j : Nat) (hN : X.N.Nodup) (ok : BlkOk X.N X.env.scope scope [(x, j)])
    (h : WE X iter σ H fun v H1 => ∃ a xs, v = .ref a ∧ SqL X.K H1 a xs ∧ ∀ D, H1 D = none → ∃ Pv : Nat → Hp → Prop, Pv 0 (upd H1 D (.lst [])) ∧ (∀ i H, i ≤ xs.length → Pv i H → SqL X.K H a xs) ∧
      (∀ i y H, xs[i]? = some y → Pv i H → WBT X scope cond ((wipe σ [j]).set j (some y)) H fun b H3 => if b = true then WB X scope elt ((wipe σ [j]).set j (some y)) H3 fun z H4 => ∃ acc, H4 D = some (.lst acc) ∧ acc.length < sizeLine ∧ Pv (i + 1) (upd H4 D (.lst (acc ++ [z]))) else Pv (i + 1) H3) ∧
      ∀ H, Pv xs.length H → Q (.ref D) H)
    (hg : ∀ (s : Shared) (H : Hp) (C : Addr) (cl : List (Str × Addr)) (fp : List Addr), PG (X.blk s H scope (compEnvC scope cl C X.env) fp) (.Name x pt) (gName j))
    (hc : X.calm = true := by rfl) (hs : ∀ z, foldedSetIterable iter X.env z = pure z := by intro _; rfl) :
    WE X (.ListComp elt [⟨.Name x pt, iter, [cond], 0⟩] scope pos) σ H Q :=
  toE (pe_lc (own := [(x, j)]) hc hN (pi_list pE) ok hg (fun s H0 C cl fp => pts_one (t := WBT X scope cond) ⟨fun pins s' σ' H' R' I q => (q s H0 C cl fp).go pins s' I⟩) (fun s H0 C cl fp => (⟨fun pins s' σ' H' Q' I q => (q s H0 C cl fp).go pins s' I⟩ : PE _ elt (WB X scope elt))) hs) (WE.mono h fun v H1 ⟨a, xs, e, hS, k⟩ => ⟨a, e, ⟨xs, hS⟩, fun D nD => by
    obtain ⟨Pv, p0, pl, ps, pd⟩ := k D nD
    exact lc_list (g := gName j) (tt := WBT X scope cond) (te := WB X scope elt) (vs := [j]) (σ := σ) Pv p0 pl (fun i y H hi p => ⟨set_wipe σ j y, ps i y H hi p⟩) pd⟩)
def BTd (X : Cx) (scope : Scope) (ρ : Rho) (e : Expr) (b : Bool) : Prop := ∀ (s : Shared) (H0 : Hp) (C : Addr) (cl : List (Str × Addr)) (fp : List Addr), TD (X.blk s H0 scope (compEnvC scope cl C X.env) fp) ρ e b
theorem d_lcLI (j : Nat) (φ : PyData → Bool) (f : PyData → PyData) (hN : X.N.Nodup) (okb : BlkOk X.N X.env.scope scope [(x, j)]) (h : ED X ρ iter (.list ds)) (l : ds.length ≤ 200000) (hct : ∀ d ∈ ds, BTd X scope (ρ.set j (some d)) cond (φ d)) (hel : ∀ d ∈ ds, φ d = true → BD X scope (ρ.set j (some d)) elt (f d))
    (hg : ∀ (s : Shared) (H : Hp) (C : Addr) (cl : List (Str × Addr)) (fp : List Addr), PG (X.blk s H scope (compEnvC scope cl C X.env) fp) (.Name x pt) (gName j))
    (hc : X.calm = true := by rfl) (hs : ∀ z, foldedSetIterable iter X.env z = pure z := by intro _; rfl) : ED X ρ (.ListComp elt [⟨.Name x pt, iter, [cond], 0⟩] scope pos) (.list ((ds.filter φ).map f)) := fun S σ H Q sl q => by
  refine e_lcLI j hN okb (h S σ H _ sl fun v H1 s1 g1 => ?_) hg hc hs
  obtain ⟨a, xs, rfl, ha, hds, sq⟩ := g1.seqL (K := X.K)
  refine ⟨a, xs, rfl, sq, fun D nD => ?_⟩
  have sl1 := sl.same s1
  have slD := sl1.and1 (o := .lst []) nD
  have hdsD := hds.mono (T := And1 S D) (My.Same.tups (same_new (o := .lst []) nD)) fun a u n e => ⟨fun z => z.elim n fun z => (by rw [z, nD] at e; cases e), by rw [upd_ne (ne_of_none e nD)]; exact e⟩
  have lx := hds.length
  refine ⟨fun i H' => ∃ ys, (∀ b o, b ≠ D → (L2.upd H1 D (.lst [])) b = some o → H' b = some o) ∧ H' D = some (.lst ys) ∧ ys.length ≤ i ∧ DGs (And1 S D) H' ys (((ds.take i).filter φ).map f), ?_, ?_, ?_, ?_⟩
  · exact ⟨[], fun b o _ e => e, upd_same, Nat.le_refl _, .nil⟩
  · rintro i H' _ ⟨ys, k1, _⟩
    exact .inl (.inl (k1 a _ (ne_of_none ha nD) (same_new nD _ _ ha)))
  · rintro i y H' hi ⟨ys, k1, k2, k3, k4⟩ s0 H00 C cl fp
    obtain ⟨d, hd, hy⟩ := hdsD.get hi
    have keep : ∀ {v : V} {d : PyData}, DG (And1 S D) (L2.upd H1 D (.lst [])) v d → DG (And1 S D) H' v d := fun g => g.mono (fun b xs e => k1 b _ (ne_of e upd_same (fun z => by cases z)) e) fun a o n e => ⟨n, k1 a o (fun z => n (.inr z)) e⟩
    have slp : SL (And1 S D) H' σ ρ := ⟨fun b z w => by
      cases e : (L2.upd H1 D (.lst [])) b with
      | none => exact slD.dom b z e
      | some o =>
        by_cases bD : b = D
        · rw [bD, k2] at w; cases w
        · (rw [k1 b o bD e] at w; cases w), fun i d q => let ⟨v, a, b⟩ := slD.look i d q; ⟨v, a, keep b⟩, slD.len⟩
    have sl2 := SL.set (i := j) slp (keep hy)
    have ew : (L2.wipe σ [j]).set j (some y) = σ.set j (some y) := by show (σ.set j none).set j (some y) = _; rw [List.set_set]
    rw [ew]
    have lt : i < ds.length := (List.getElem?_eq_some_iff.mp hd).1
    have e0 : ds[i] = d := by rw [List.getElem?_eq_getElem lt] at hd; exact Option.some.inj hd
    refine hct d (List.mem_of_getElem? hd) s0 H00 C cl fp (And1 S D) _ H' _ sl2 fun H3 s3 => ?_
    cases hφ : φ d with
    | true =>
      refine (if_pos rfl).mpr ?_
      intro s0 H00 C cl fp
      refine hel d (List.mem_of_getElem? hd) hφ s0 H00 C cl fp (And1 S D) _ H3 _ (sl2.same s3) fun z H4 s4 g4 => ?_
      have h4 := s4 _ _ (s3 _ _ k2)
      refine ⟨ys, h4, Nat.lt_of_le_of_lt k3 (Nat.lt_of_lt_of_le (show i < 200001 by omega) (by decide)), ys ++ [z], fun b o n e => ?_, upd_same, by rw [List.length_append]; show ys.length + 1 ≤ _; omega, ?_⟩
      · rw [upd_ne n]; exact s4 _ _ (s3 _ _ (k1 b o n e))
      · rw [List.take_succ_eq_append_getElem lt, List.filter_append, List.map_append, e0]
        have e1 : [d].filter φ = [d] := by simp [hφ]
        rw [e1]
        exact (((k4.same s3).same s4).append (.cons g4 .nil)).put h4
    | false =>
      refine (if_neg (by simp)).mpr ?_
      refine ⟨ys, fun b o n e => s3 _ _ (k1 b o n e), s3 _ _ k2, by omega, ?_⟩
      rw [List.take_succ_eq_append_getElem lt, List.filter_append, e0]
      have e1 : [d].filter φ = [] := by simp [hφ]
      rw [e1, List.append_nil]
      exact k4.same s3
  · rintro H' ⟨ys, k1, k2, k3, k4⟩
    rw [lx, List.take_length] at k4
    refine q _ H' (s1.trans fun b o e => k1 b o (ne_of_none e nD) (same_new nD b o e)) (.lst k2 (fun z => sl1.dom D z nD) k4.un1)
/-- y = [elt for x in a list] as a statement -/
theorem s_lcLw {pt py spos : Pos} {y : Str} {D : Ends} (i j : Nat) (hN : X.N.Nodup) (ok : BlkOk X.N X.env.scope scope [(x, j)])
    (h : WE X iter σ H fun v H1 => ∃ a xs, v = .ref a ∧ SqL X.K H1 a xs ∧ ∀ Dn, H1 Dn = none → ∃ Pv : Nat → Hp → Prop, Pv 0 (upd H1 Dn (.lst [])) ∧ (∀ i H, i ≤ xs.length → Pv i H → SqL X.K H a xs) ∧
      (∀ i y H, xs[i]? = some y → Pv i H → WB X scope elt ((wipe σ [j]).set j (some y)) H fun z H4 => ∃ acc, H4 Dn = some (.lst acc) ∧ acc.length < sizeLine ∧ Pv (i + 1) (upd H4 Dn (.lst (acc ++ [z])))) ∧
      ∀ H, Pv xs.length H → D.nx (σ.set i (some (.ref Dn))) H)
    (hg : ∀ (s : Shared) (H : Hp) (C : Addr) (cl : List (Str × Addr)) (fp : List Addr), PG (X.blk s H scope (compEnvC scope cl C X.env) fp) (.Name x pt) (gName j))
    (hsw : swapsWith (.ListComp elt [⟨.Name x pt, iter, [], 0⟩] scope pos) (some (.Name y py)) spos.line X.env = pure true)
    (hy : X.N[i]? = some y := by rfl) (hyl : X.env.scope.names.lookup y = some .local := by rfl)
    (hc : X.calm = true := by rfl) (hs : ∀ z, foldedSetIterable iter X.env z = pure z := by intro _; rfl) :
    WS X (.Assign [.Name y py] (.ListComp elt [⟨.Name x pt, iter, [], 0⟩] scope pos) spos) D σ H :=
  toS (ps_setLc (own := [(x, j)]) (te := WB X scope elt) hc hN hy hyl hsw (pi_list pE) ok hg (fun _ _ _ _ _ => pts_nil) (fun s H0 C cl fp => ⟨fun pins s' σ' H' Q' I q => (q s H0 C cl fp).go pins s' I⟩) hs)
    (WE.mono h fun v H1 ⟨a, xs, e, hS, k⟩ => ⟨a, e, ⟨xs, hS⟩, fun Dn nD => by
      obtain ⟨Pv, p0, pl, ps, pd⟩ := k Dn nD
      exact lc_list (g := gName j) (tt := tYes) (te := WB X scope elt) (vs := [j]) (σ := σ) Pv p0 pl (fun i y H hi p => ⟨set_wipe σ j y, ps i y H hi p⟩) pd⟩)
end
end My

namespace K02
open PySem PySem.Spec PyProof.Rows L2 My


/-- the empty tuple that stands behind the top -/
def KEmp (K : PySem.W.Frag) (e : Addr) : Prop := ∃ (o : Obj) (its : Array Value) (n : Nat), K.lookup e = some o ∧ o.cls = .type "tuple" ∧ o.data = .seq its n ∧ its.size ≤ sizeLine ∧ Vals [] its.toList
theorem KEmp.sq {K : PySem.W.Frag} {e : Addr} (k : KEmp K e) {H : Hp} : SqT K H e [] := .inr k
theorem KEmp.ty {K : PySem.W.Frag} {e : Addr} (k : KEmp K e) {H : Hp} : TyX K H (.ref e) (.type "tuple") := by
  obtain ⟨o, _, _, h1, h2, _⟩ := k
  exact .kTuple h1 h2
def spCasts0 (K : PySem.W.Frag) : Sp := fun vs H Q _ => ∃ e t, vs = [.ref e, t] ∧ KEmp K e ∧ ∀ H', Same H H' → Q (.bl true) H'
def spCat0 (K : PySem.W.Frag) (C CH : Addr) : Sp := fun vs H Q E => ∃ (S : Addr → Prop) (c dx e : Addr) (v1 : V) (d1 : PyData), vs = [.ref c, v1, .ref e] ∧ KEmp K e ∧ H c = some (.ins C dx []) ∧ S c ∧ (∀ a, S a → H a ≠ none) ∧ DG S H v1 d1 ∧ okS d1 = true ∧ typB d1 = true ∧
  ∀ H', (∀ b o, b ≠ c → H b = some o → H' b = some o) → CatAt C CH H' c (srt (zsOf d1)) [] → Q .non H'
section
variable {P : Program} {w : World} {K : PySem.W.Frag} {mg : Str → Option Value} {base : Heap}
theorem ok_casts0 {f : Addr} {fd : FuncData} (F : Fun K "are_casts" "are_casts" sCasts f fd) (G : Bf w K mg) (cD : CalN P w K mg base 1 "are_different" (spDiffK K)) : FnOk P w K mg base CX0 3 f fd ["thing", "types"] (spCasts0 K) := by
  refine Fun.okW F scCasts (fun vs H Q E h => by obtain ⟨e, t, rfl, _⟩ := h; rfl) (fun cdv B out s H vs Q E hr h => ?_)
  obtain ⟨e, t, rfl, ke, q⟩ := h
  refine l_cons (s_if (t_not (t_val (e_callB call_isiT G.isi PyProof.Rows.boot_isinstance (a_cons (e_var 0 rfl ?_)) rfl (by decide) (by decide) rfl rfl))))
  refine a_cons (e_tup (a_cons (e_bltn (v := .ty "tuple") G.tuple PyProof.Rows.boot_tuple rfl ?_)))
  refine a_cons (e_bltn (v := .ty "list") G.list PyProof.Rows.boot_list rfl ?_)
  refine a_nil ⟨by show 2 ≤ sizeLine; decide, fun r hr0 => a_nil ⟨.ref e, r, [.ty "tuple", .ty "list"], .type "tuple", [.type "tuple", .type "list"], true, rfl, upd_same, .cons (.ty "tuple") (.cons (.ty "list") .nil), ke.ty, kit_tl (.tuple []), true, rfl, (fun h => by cases h), fun _ => l_nil ?_⟩⟩
  have s1 := same_new (o := .tup [V.ty "tuple", .ty "list"]) hr0
  refine l_cons (s_if (t_not (t_val (e_callB (cr_all rfl) G.all (by decide +kernel) (a_cons (e_lcT 2 scCasts.nd (blkOk_by (N := nCasts) (sc := defScope sCasts) (by decide +kernel)) (e_var 0 rfl ?_) (fun _ _ _ _ _ => pg_name (i := 2) scCasts.nd rfl (Or.inl rfl)))) rfl (by decide) (by decide) rfl rfl))))
  refine ⟨e, [], rfl, ke.sq, fun D nD => ⟨fun _ H' => H' = upd (upd H r (.tup [V.ty "tuple", .ty "list"])) D (.lst []), rfl, fun _ _ _ _ => ke.sq, fun i y H' hy _ => (by cases hy), fun H' eH => ?_⟩⟩
  subst eH
  refine a_nil ⟨D, [], rfl, .inl (.inl upd_same), true, rfl, (fun h => by cases h), fun _ => l_nil ?_⟩
  have s2 := s1.trans (same_new (o := .lst []) nD)
  exact l_one (s_ret (e_c cD hr (by decide) (a_cons (e_var 0 rfl (a_nil ⟨e, [], rfl, ⟨.inr ke.sq, fun e m => (by cases m), by decide⟩, q _ s2⟩)))))
theorem srtD_nil : srtD [] = [] := List.mergeSort_nil
theorem ok_cinit0 {C CH CI f : Addr} {fd : FuncData} {dvs : List V} {kws : List (Str × V)} (F : FunD K "__init__" "Catalog.__init__" (defArgs sCInit) (defBody sCInit) (defScope sCInit) dvs kws f fd) (G : Bf w K mg) (Gc : Bc K mg C CI) (cT : CalN P w K mg base 4 "are_types" (spB typB)) (cC : CalN P w K mg base 3 "are_casts" (spCasts0 K)) (cH : MakN P w K mg base CX0 1 "Holding" CH (spHold CH)) :
    FnOk P w K mg base (L2.CX P w) 5 f fd ["self", "types", "casts"] (spCat0 K C CH) := by
  refine fund_okXW F scCInit (fun vs H Q E h => by obtain ⟨S, c, dx, e, v1, d1, rfl, _⟩ := h; rfl) (fun cdv B out s H vs Q E hr tk po h => ?_)
  obtain ⟨S, c, dx, e, v1, d1, rfl, ke, hc, hS, dom, g1, ok1, ht, q1⟩ := h
  have sl : SL S H [some (.ref c), some v1, some (.ref e), none] [none, some d1, none, none] := ⟨dom, fun i d q => (by
    match i, q with
    | 0, q => cases q
    | 1, q => cases q; exact ⟨v1, rfl, g1⟩
    | 2, q => cases q
    | 3, q => cases q
    | n + 4, q => cases q), rfl⟩
  obtain ⟨sq1, e1, l1, l2, _, _⟩ := typB_iff ht
  refine l_cons (s_if (t_w (w_or ((td_not (td_val (d_fn (f := typB) (d := d1) cT hr (by decide) (d_var 1) ok1))) S _ H _ sl fun H1 s1 => ?_))))
  rw [ht]
  refine ⟨(fun h => by cases h), fun _ => w_or1 (t_not (t_val (e_c cC hr (by decide) (a_cons (e_var 2 rfl (a_cons (e_var 1 rfl (a_nil ⟨e, v1, rfl, ke, fun H2 s2 => ⟨true, rfl, (fun h => by cases h), fun _ => l_nil ?_⟩⟩))))))))⟩
  have s1 := s1.trans s2
  clear s2
  have sl := sl.same s1
  have M1 : Mk1 C c dx H H2 [] := ⟨s1 _ _ hc, fun b o _ e => s1 b o e⟩
  -- self._types
  have dT : ∀ {X : Cx} {ρ : Rho} {e : Expr} {p p' pos pos' : Pos}, ED X ρ e d1 → X.mg "sorted" = none → X.mg "tuple" = none → Gl X "sorted" → Gl X "tuple" → starEach [e] X.env = (false, eval e X.env) :: starEach [] X.env → starEach [.Call (.Name "sorted" p) [e] [] pos] X.env = (false, eval (.Call (.Name "sorted" p) [e] [] pos) X.env) :: starEach [] X.env →
      ED X ρ (.Call (.Name "tuple" p') [.Call (.Name "sorted" p) [e] [] pos] [] pos') (.tuple ((srt (zsOf d1)).map PyData.str)) := fun {X ρ e p p' pos pos'} he m1 m2 g1 g2 s1 s2 => by
    rcases seq_cases sq1 with q | q
    · exact d_tupleD m2 (d_sortedT m1 (he.cast (by rw [← e1]; exact q)) (by omega) g1 s1) rfl g2 s2
    · exact d_tupleD m2 (d_sortedL m1 (he.cast (by rw [← e1]; exact q)) (by omega) g1 s1) rfl g2 s2
  refine l_cons (s_fld (ed_go (dT (d_var 1) G.sorted G.tuple rfl rfl rfl rfl) sl fun t H2 s2 gt => e_var 0 rfl ?_))
  have M2 := M1.same s2
  refine ⟨c, C, dx, [], rfl, M2.at_, Gc.cl, Gc.no _ (by decide), by decide, ?_⟩
  have tt : DT H2 t (.tuple ((srt (zsOf d1)).map PyData.str)) := gt.toDT (tupOnly_strs _)
  have tt := tt.mono (ins_tups (gs := putF "_types" t []) M2.at_)
  replace M2 := M2.put (gs := putF "_types" t [])
  generalize L2.upd H2 c (.ins C dx (putF "_types" t [])) = H3 at M2 tt
  -- self._casts
  refine l_cons (s_fld (e_tupL G.tuple (e_callB (call_sortedD hr.units) G.sorted PyProof.Rows.boot_sorted (a_cons (e_var 2 rfl ?_)) rfl (by decide) (by decide) rfl rfl)))
  refine a_nil ⟨S, e, [], [], rfl, .inr ke.sq, .nil, (fun d h => by cases h), .inl (fun d h => by cases h), by decide, (fun d h => by cases h), fun ys p gy hp => ?_⟩
  rw [srtD_nil] at gy
  cases gy
  refine ⟨p, [], rfl, .inl (.inl upd_same), fun r hr0 => e_var 0 rfl ?_⟩
  have s4 := (same_new (o := .lst []) hp).trans (same_new (o := .tup []) hr0)
  have kk : DT (upd (upd H3 p (.lst [])) r (.tup [])) (.ref r) (.tuple []) := .tup upd_same .nil
  have M4 := M2.same s4
  refine ⟨c, C, dx, _, rfl, M4.at_, Gc.cl, Gc.no _ (by decide), by have := length_putF "_types" t []; simp at this; omega, ?_⟩
  have tt := (tt.mono (My.Same.tups s4))
  generalize upd (upd H3 p (.lst [])) r (.tup []) = H4 at s4 kk M4 tt
  have kk := kk.mono (ins_tups (gs := putF "_casts" (.ref r) (putF "_types" t [])) M4.at_)
  have tt := tt.mono (ins_tups (gs := putF "_casts" (.ref r) (putF "_types" t [])) M4.at_)
  replace M4 := M4.put (gs := putF "_casts" (.ref r) (putF "_types" t []))
  have lk2 : (putF "_casts" (.ref r) (putF "_types" t [])).lookup ("_casts" : Str) = some (.ref r) := by rw [lookup_putF, if_pos rfl]
  have lt2 : (putF "_casts" (.ref r) (putF "_types" t [])).lookup ("_types" : Str) = some t := by rw [lookup_putF, if_neg (by decide), lookup_putF, if_pos rfl]
  have ll2 : (putF "_casts" (.ref r) (putF "_types" t [])).length ≤ 10 := by have := length_putF "_types" t []; have := length_putF "_casts" (.ref r) (putF "_types" t []); simp at *; omega
  show WL _ _ _ [some (.ref c), some v1, some (.ref e), none] (L2.upd H4 c (.ins C dx (putF "_casts" (.ref r) (putF "_types" t []))))
  generalize putF "_casts" (.ref r) (putF "_types" t []) = fs at M4 kk tt lk2 lt2 ll2
  generalize L2.upd H4 c (.ins C dx fs) = H5 at M4 kk tt
  -- self._casting
  refine l_cons (s_fld (e_dcTrue 3 scCInit.nd hr.units (blkOk_by (N := nCInit) (sc := defScope sCInit) (by decide +kernel)) (e_fld (e_var 0 rfl ⟨c, C, dx, fs, .ref r, rfl, M4.at_, Gc.cl, Gc.no _ (by decide), lk2, ?_⟩)) (by show 3 < 4; decide) (fun _ _ _ _ _ => pg_name (i := 3) scCInit.nd rfl (Or.inl rfl)) (fun _ _ _ _ _ => pe_var (i := 3) rfl (Or.inl rfl))))
  obtain ⟨xs, hk, hks⟩ : ∃ xs, H5 r = some (.tup xs) ∧ DTs H5 xs [] := by
    cases kk with
    | tup h hs => exact ⟨_, h, hs⟩
  cases hks
  refine ⟨r, [], rfl, hk, (fun y m => by cases m), by decide, fun D kvs hD => ?_⟩
  have ncD : c ≠ D := fun e => by rw [← e, M4.at_] at hD; cases hD
  have s6 : Same H5 (L2.upd H5 D (.dT kvs)) := same_new hD
  have M6 := M4.same s6
  have kk : DT (L2.upd H5 D (.dT kvs)) (.ref r) (.tuple []) := .tup (s6 _ _ hk) .nil
  have tt := tt.mono (My.Same.tups s6)
  refine e_var 0 rfl ⟨c, C, dx, fs, rfl, M6.at_, Gc.cl, Gc.no _ (by decide), by omega, ?_⟩
  have kk := kk.mono (ins_tups (gs := putF "_casting" (.ref D) fs) M6.at_)
  have tt := tt.mono (ins_tups (gs := putF "_casting" (.ref D) fs) M6.at_)
  replace M6 := M6.put (gs := putF "_casting" (.ref D) fs)
  have lk3 : (putF "_casting" (.ref D) fs).lookup ("_casts" : Str) = some (.ref r) := by rw [lookup_putF, if_neg (by decide)]; exact lk2
  have lt3 : (putF "_casting" (.ref D) fs).lookup ("_types" : Str) = some t := by rw [lookup_putF, if_neg (by decide)]; exact lt2
  have ll3 : (putF "_casting" (.ref D) fs).length ≤ 11 := by have := length_putF "_casting" (.ref D) fs; omega
  show WL _ _ _ [some (.ref c), some v1, some (.ref e), none] (L2.upd (L2.upd H5 D (.dT kvs)) c (.ins C dx (putF "_casting" (.ref D) fs)))
  generalize putF "_casting" (.ref D) fs = fs2 at M6 kk tt lk3 lt3 ll3
  generalize L2.upd (L2.upd H5 D (.dT kvs)) c (.ins C dx fs2) = H7 at M6 kk tt
  -- self._holding
  refine l_cons (s_fld (e_make0 cH hr (by decide) fun h dh n1 n2 n3 => ⟨h, dh, rfl, upd_same, fun H8 kp hd => ⟨rfl, ?_⟩⟩))
  have nch : c ≠ h := fun e => by rw [← e, M6.at_] at n1; cases n1
  have s8 : Same H7 H8 := fun b o e => kp b o (fun z => by rw [z, n1] at e; cases e) (by rw [upd_ne (fun z => by rw [z, n1] at e; cases e), upd_ne (fun z => by rw [z, n2] at e; cases e)]; exact e)
  have M8 := M6.same s8
  refine e_var 0 rfl ⟨c, C, dx, fs2, rfl, M8.at_, Gc.cl, Gc.no _ (by decide), by omega, ?_⟩
  refine l_nil (q1 _ (M8.put (gs := putF "_holding" (.ref h) fs2)).keep ⟨dx, putF "_holding" (.ref h) fs2, t, .ref r, h, upd_same, by rw [lookup_putF, if_neg (by decide)]; exact lt3, (tt.mono (My.Same.tups s8)).mono (ins_tups M8.at_), by rw [lookup_putF, if_neg (by decide)]; exact lk3, (kk.mono (My.Same.tups s8)).mono (ins_tups M8.at_), by rw [lookup_putF, if_pos rfl], ?_⟩)
  obtain ⟨dz, fz, h1, h2, h3⟩ := hd
  refine ⟨dz, fz, by rw [upd_ne nch.symm]; exact h1, h2, fun n m => ?_⟩
  obtain ⟨e, h4, h5⟩ := h3 n m
  exact ⟨e, h4, by rw [upd_ne (fun z => by rw [z, M8.at_] at h5; cases h5)]; exact h5⟩
end
end K02

namespace K02
open PySem PySem.Spec PyProof.Rows L2 My


abbrev sLaw : Stmt := top 29
abbrev nLaw : List Str := ["_law_script", "_law_pen_here", "_law_turn", "_law_sorts", "_law_pairs", "_law_steps_here", "_law_plain", "_law_one", "_law_pair"]
def spLaw (K : PySem.W.Frag) : Sp := fun vs H Q _ => ∃ (a : Addr) (ns : List Int), vs = [.ref a] ∧ SqL K H a (ns.map V.int) ∧ ns.length ≤ 63 ∧ ∀ H', Q (.bl true) H'
theorem ba_srt : srt (("b" : Str) :: "a" :: []) = (("a" : Str) :: "b" :: []) := (srt_uniq (List.Perm.swap _ _ _) (by decide +kernel)).symm
theorem ab_srt : srt (("a" : Str) :: "b" :: []) = (("a" : Str) :: "b" :: []) := (srt_uniq (List.Perm.refl _) (by decide +kernel)).symm
theorem srt1 (z : Str) : srt [z] = [z] := List.mergeSort_singleton z
theorem srtD1 (d : PyData) : srtD [d] = [d] := List.mergeSort_singleton d
/-! ### sizes -/
def okT (d : PyData) : Prop := okE d = true ∧ szE d ≤ 1000 ∧ d.depth ≤ 5
theorem odds_T : ∀ o ∈ odds, okE o = true ∧ szE o ≤ 1000 ∧ o.depth ≤ 5 := by decide +kernel
theorem szEs_le : ∀ {ds : List PyData}, (∀ d ∈ ds, szE d ≤ 1000) → szEs ds ≤ 1002 * ds.length
  | [], _ => Nat.le_refl _
  | d :: ds, h => by
    have h1 := h d List.mem_cons_self
    have h2 := szEs_le (ds := ds) fun x m => h x (List.mem_cons_of_mem _ m)
    rw [szEs, List.length_cons]; omega
theorem okM_tup {ds : List PyData} (h : ∀ d ∈ ds, okT d) (l : ds.length ≤ 60) : okM (.tuple ds) := by
  refine ⟨?_, ?_, ?_⟩
  · show okEs ds = true
    exact okEs_of fun d m => (h d m).1
  · show szEs ds + 5 ≤ _
    have := szEs_le (ds := ds) fun d m => (h d m).2.1
    omega
  · have := depthAll_le (ds := ds) (n := 5) fun d m => (h d m).2.2
    rw [PyData.depth]; omega
theorem okM_lst {ds : List PyData} (h : ∀ d ∈ ds, okT d) (l : ds.length ≤ 60) : okM (.list ds) := okM_tup h l
theorem okT.m {d : PyData} (h : okT d) : okM d := ⟨h.1, Nat.le_trans h.2.1 (by decide), Nat.le_trans h.2.2 (by decide)⟩
theorem okT.s {d : PyData} (h : okT d) : okS d = true := h.m.s
abbrev pool5 : List Str := ["text", "word", "num", "day", "hour"]
theorem pool_T : ∀ z ∈ pool5, okE (.str z) = true ∧ szE (.str z) ≤ 400 ∧ (PyData.str z).depth ≤ 4 := by decide +kernel
theorem str_T {z : Str} (h : z ∈ pool5) : okT (.str z) := by
  obtain ⟨h1, h2, h3⟩ := pool_T z h
  exact ⟨h1, by omega, by omega⟩
theorem prD_T {p : Str × Str} (h1 : p.1 ∈ pool5) (h2 : p.2 ∈ pool5) : okT (prD p) := by
  obtain ⟨a1, a2, a3⟩ := pool_T _ h1
  obtain ⟨b1, b2, b3⟩ := pool_T _ h2
  refine ⟨?_, ?_, ?_⟩
  · show okEs [.str p.1, .str p.2] = true
    exact okEs_of fun d m => by
      rcases List.mem_cons.mp m with rfl | m
      · exact a1
      · rw [List.mem_singleton.mp m]; exact b1
  · show szE (.str p.1) + 2 + (szE (.str p.2) + 2 + 0) + 5 ≤ 1000
    omega
  · have : PyData.depthAll [.str p.1, .str p.2] ≤ 4 := depthAll_le fun d m => by
      rcases List.mem_cons.mp m with rfl | m
      · exact a3
      · rw [List.mem_singleton.mp m]; exact b3
    show (PyData.tuple [.str p.1, .str p.2]).depth ≤ 5
    rw [PyData.depth]; omega
/-- data of which the steps are as wished -/
def okX (d : PyData) : Prop := okT d ∧ (tupN d 2 = true → ∃ p, d = prD p)
theorem okX.step {d : PyData} (h : okX d) : okStep d := ⟨h.1.s, h.2⟩
theorem okX_prD {p : Str × Str} (h1 : p.1 ∈ pool5) (h2 : p.2 ∈ pool5) : okX (prD p) := ⟨prD_T h1 h2, fun _ => ⟨p, rfl⟩⟩
theorem odd_X : ∀ o ∈ odds, okX o := fun o m => ⟨odds_T o m, fun h => by
  simp only [odds, odd1, odd2, List.cons_append, List.nil_append, List.mem_cons, List.not_mem_nil, or_false] at m
  rcases m with rfl | rfl | rfl | rfl | rfl | rfl | rfl | rfl | rfl | rfl | rfl | rfl | rfl | rfl | rfl | rfl <;> first | exact ⟨("text", "text"), rfl⟩ | exact absurd h (by decide)⟩
theorem odd_steps : ∀ o ∈ odds, (seqD o).length ≤ 60 ∧ ∀ x ∈ seqD o, ∃ z : Str, x = .str z ∧ okS (.str z) = true := fun o m => by
  simp only [odds, odd1, odd2, List.cons_append, List.nil_append, List.mem_cons, List.not_mem_nil, or_false] at m
  rcases m with rfl | rfl | rfl | rfl | rfl | rfl | rfl | rfl | rfl | rfl | rfl | rfl | rfl | rfl | rfl | rfl <;>
    refine ⟨by decide, fun x hx => ?_⟩ <;> simp only [seqD, List.mem_cons, List.not_mem_nil, or_false] at hx <;>
    first | (rcases hx with rfl | rfl | rfl <;> exact ⟨_, rfl, by decide +kernel⟩) | (rcases hx with rfl | rfl <;> exact ⟨_, rfl, by decide +kernel⟩) | (rcases hx with rfl; exact ⟨_, rfl, by decide +kernel⟩) | exact hx.elim
theorem okSteps_of {ds : List PyData} {d : PyData} (e : d = .tuple ds ∨ d = .list ds) (h : ∀ x ∈ ds, okX x) (l : ds.length ≤ 60) : okSteps d := by
  have m := okM_tup (fun x m => (h x m).1) l
  rcases e with rfl | rfl
  · exact ⟨m.s, l, fun x hx => (h x hx).step⟩
  · exact ⟨m.s, l, fun x hx => (h x hx).step⟩
theorem bent_ok {ds : List PyData} {d : PyData} (b : BentD ds d) (h : ∀ x ∈ ds, okX x) (l : ds.length ≤ 50) : okM d ∧ okSteps d ∧ (seqD d).length ≤ 60 := by
  rcases b with rfl | rfl | b | ⟨o, ho, rfl⟩
  · exact ⟨okM_tup (fun x m => (h x m).1) (by omega), okSteps_of (.inl rfl) h (by omega), by show ds.length ≤ 60; omega⟩
  · exact ⟨okM_lst (fun x m => (h x m).1) (by omega), okSteps_of (.inr rfl) h (by omega), by show ds.length ≤ 60; omega⟩
  · have t := (odd_X d b).1
    obtain ⟨l1, e1⟩ := odd_steps d b
    refine ⟨t.m, ⟨t.s, l1, fun x hx => ?_⟩, l1⟩
    obtain ⟨z, rfl, hz⟩ := e1 x hx
    exact ⟨hz, fun h => by cases h⟩
  · have h' : ∀ x ∈ ds ++ [o], okX x := fun x m => by
      rcases List.mem_append.mp m with m | m
      · exact h x m
      · rw [List.mem_singleton.mp m]; exact odd_X o ho
    have l' : (ds ++ [o]).length ≤ 60 := by rw [List.length_append]; show ds.length + 1 ≤ 60; omega
    exact ⟨okM_lst (fun x m => (h' x m).1) l', okSteps_of (.inr rfl) h' l', l'⟩
theorem str_X {z : Str} (h : okT (.str z)) : okX (.str z) := ⟨h, fun e => by cases e⟩
/-! ### what stays -/
theorem DG.nlist {S : Addr → Prop} {H : Hp} {b : Addr} {d : PyData} {xs : List V} (g : DG S H (.ref b) d) (sb : S b) (e : H b = some (.lst xs)) : False := by
  cases g with
  | tup h _ => rw [h] at e; cases e
  | lst _ n _ => exact n sb
  | dct _ n _ => exact n sb
theorem Frm.old {S : Addr → Prop} {v1 v2 : V} {d1 d2 : PyData} {H H' : Hp} (F : Frm v1 v2 H H') (g1 : DG S H v1 d1) (g2 : DG S H v2 d2) {b : Addr} {o : HO} (sb : S b) (e : H b = some o) : H' b = some o := by
  by_cases n : ∀ xs, o ≠ .lst xs
  · exact F b o e (.inl n)
  · obtain ⟨xs, hx⟩ := Classical.not_forall.mp n
    have hx : o = .lst xs := Classical.not_not.mp hx
    subst hx
    exact F b _ e (.inr ⟨fun z => DG.nlist (z ▸ g1) sb e, fun z => DG.nlist (z ▸ g2) sb e⟩)
theorem takes0 {X : Cx} : Takes X fun (cls : Value) (d : Option Addr) (_ : L2.St) (H : Hp) => E0 cls d H := fun u s' ⟨_, _, _, _, _, _, _, _, _, _, _, _, _, _, _, _, w⟩ => w.elim
theorem MakN.toD {P : Program} {w : World} {K : PySem.W.Frag} {mg : Str → Option Value} {base : Heap} {cx : CXT} {k : Nat} {x : Str} {C : Addr} {sp : Sp} (c : MakN P w K mg base cx k x C sp) : MakD P w K mg base cx k x C [] sp := by
  obtain ⟨f, fd, ps, F, M, hm, hb⟩ := c.ex
  exact ⟨f, fd, ps, [], F, M, hm, hb, .nil⟩
theorem dts_str {H : Hp} : ∀ zs : List Str, DTs H (zs.map V.str) (zs.map PyData.str)
  | [] => .nil
  | z :: zs => .cons (.str z) (dts_str zs)
/-- lists in a row, each apart from those before -/
inductive Ch (H : Hp) : (Addr → Prop) → List V → List PyData → Prop
  | nil {S : Addr → Prop} : Ch H S [] []
  | cons {S T : Addr → Prop} {v : V} {vs : List V} {d : PyData} {ds : List PyData} (g : DG S H v d) (st : ∀ a, S a → T a) (tv : ∀ a, v = .ref a → T a) (r : Ch H T vs ds) : Ch H S (v :: vs) (d :: ds)
theorem Ch.mono {H H' : Hp} {S : Addr → Prop} {vs : List V} {ds : List PyData} (c : Ch H S vs ds) (tp : Tup H H') (k : ∀ a o, ¬ S a → H a = some o → H' a = some o) : Ch H' S vs ds := by
  induction c with
  | nil => exact .nil
  | cons g st tv r ih => exact .cons (g.mono tp fun a o n e => ⟨n, k a o n e⟩) st tv (ih fun a o n e => k a o (fun z => n (st a z)) e)
theorem zsOf_tup (zs : List Str) : zsOf (.tuple (zs.map PyData.str)) = zs := by
  show (zs.map PyData.str).map My.strOf = zs
  rw [List.map_map]
  exact List.map_id _
abbrev oneT (z : Str) : List Str := [z]
def lits : List PyData := [.list [.tuple [.str "a", .str "b", .str "c"]], .list [.list [.str "a", .str "b"]], .list [.tuple [.str "a"]], .list [.str "ab"], .list [.tuple [.str "a", .str "b"], .list [.str "b", .str "a"]]]
theorem T_of {d : PyData} (h : okE d = true ∧ szE d ≤ 1000 ∧ d.depth ≤ 5) : okT d := h
theorem lits_ok : ∀ d ∈ lits, ∃ ds, d = .list ds ∧ ds.length ≤ 60 ∧ ∀ x ∈ ds, okX x := fun d m => by
  simp only [lits, List.mem_cons, List.not_mem_nil, or_false] at m
  rcases m with rfl | rfl | rfl | rfl | rfl <;> refine ⟨_, rfl, by decide, fun x hx => ?_⟩ <;> simp only [List.mem_cons, List.not_mem_nil, or_false] at hx
  · subst hx; exact ⟨T_of (by decide +kernel), fun h => absurd h (by decide)⟩
  · subst hx; exact ⟨T_of (by decide +kernel), fun h => absurd h (by decide)⟩
  · subst hx; exact ⟨T_of (by decide +kernel), fun h => absurd h (by decide)⟩
  · subst hx; exact ⟨T_of (by decide +kernel), fun h => absurd h (by decide)⟩
  · rcases hx with rfl | rfl
    · exact ⟨T_of (by decide +kernel), fun _ => ⟨("a", "b"), rfl⟩⟩
    · exact ⟨T_of (by decide +kernel), fun h => absurd h (by decide)⟩
abbrev abc : List PyData := [.str "a", .str "b", .str "c"]
theorem abc_T : ∀ d ∈ abc, okE d = true ∧ szE d ≤ 1000 ∧ d.depth ≤ 5 := by decide +kernel
theorem DG.some {S : Addr → Prop} {H : Hp} {a : Addr} {d : PyData} (g : DG S H (.ref a) d) : H a ≠ none := by
  cases g with
  | tup h _ => rw [h]; exact fun z => by cases z
  | lst h _ _ => rw [h]; exact fun z => by cases z
  | dct h _ _ => rw [h]; exact fun z => by cases z
theorem Ch.at {H : Hp} {us : List V} {ds : List PyData} {k : Nat} {y : V} {S : Addr → Prop} (hy : us[k]? = some y) (c : Ch H S (us.drop k) (ds.drop k)) : ∃ T d, DG S H y d ∧ d ∈ ds ∧ (∀ a, y = .ref a → T a) ∧ Ch H T (us.drop (k + 1)) (ds.drop (k + 1)) := by
  have lt : k < us.length := (List.getElem?_eq_some_iff.mp hy).1
  have e : us.drop k = y :: us.drop (k + 1) := by
    rw [List.drop_eq_getElem_cons lt]
    rw [List.getElem?_eq_getElem lt] at hy
    rw [Option.some.inj hy]
  rw [e] at c
  cases hd : ds.drop k with
  | nil => rw [hd] at c; cases c
  | cons d r =>
    rw [hd] at c
    have er : r = ds.drop (k + 1) := by
      have := congrArg List.tail hd
      rw [List.tail_drop] at this
      exact this.symm
    cases c with
    | cons g st tv r' => exact ⟨_, d, g, List.drop_subset k ds (by rw [hd]; exact List.mem_cons_self), tv, by rw [← er]; exact r'⟩
/-- two catalogs side by side -/
def Two (C CH : Addr) (H : Hp) (x y : V) (bb : Bool) : Prop := ∃ c c2 ts cs ts2 cs2, x = .ref c ∧ y = .ref c2 ∧ CatAt C CH H c ts cs ∧ CatAt C CH H c2 ts2 cs2 ∧ SeqAt.shaped (.tuple (ts.map PyData.str)) = true ∧ SeqAt.shaped (.tuple cs) = true ∧ SeqAt.shaped (.tuple (ts2.map PyData.str)) = true ∧ SeqAt.shaped (.tuple cs2) = true ∧
  (PyData.eqv (.tuple (ts.map PyData.str)) (.tuple (ts2.map PyData.str)) && PyData.eqv (.tuple cs) (.tuple cs2)) = bb
theorem Two.own {K : PySem.W.Frag} {C CH : Addr} {H : Hp} {x y : V} {bb : Bool} {g : Bool → Bool} {Q : VK} (t : Two C CH H x y bb) (q : Q (.bl (g bb)) H) : rOwn K C (spEq C CH) g x y H Q := by
  obtain ⟨c, c2, ts, cs, ts2, cs2, rfl, rfl, h1, h2, s1, s2, s3, s4, rfl⟩ := t
  obtain ⟨dx, fs, _, _, _, e1, _⟩ := id h1
  obtain ⟨dx2, fs2, _, _, _, e2, _⟩ := id h2
  exact ⟨c, dx, fs, rfl, e1, .ins e2, c, .ref c2, ts, cs, rfl, h1, s1, s2, .inl ⟨c2, ts2, cs2, rfl, h2, s3, s4, _, rfl, q⟩⟩
section
variable {X : Cx} {C CH CI : Addr} {j : Nat} {p pos : Pos} {e e1 e2 : Expr} {σ : L2.St} {H : Hp} {Q : VK} {zs : List Str} {d1 d2 : PyData} {em : Addr}
theorem e_cat0 (cC : MakD X.prog X.w X.K X.mg X.base (L2.CX X.prog X.w) 5 "Catalog" C [.ref em] (spCat0 X.K C CH)) (ke : KEmp X.K em) (hr : Room j X.A) (hk : 6 ≤ j) (he : Lit e (.tuple (zs.map PyData.str))) (ok : okS (.tuple (zs.map PyData.str)) = true) (ht : typB (.tuple (zs.map PyData.str)) = true)
    (q : ∀ c H', Same H H' → CatAt C CH H' c (srt zs) [] → Q (.ref c) H') (hg : Gl X "Catalog" := by rfl) (hs : starEach [e] X.env = (false, eval e X.env) :: starEach [] X.env := by rfl) (hpl : (backTo pos (starEach [] X.env)).any (·.1) = false := by rfl) : WE X (.Call (.Name "Catalog" p) [e] [] pos) σ H Q := by
  refine e_makeD cC takes0 hr hk (a_cons (e_lit he (S := fun _ => False) (fun a h => h.elim) fun v H1 s1 g1 => a_nil fun c dx n1 n2 n3 => ?_) hs) hg (by decide) hs hpl
  have sN : Same H1 (L2.upd H1 dx (.own c)) := same_new n2
  have n1' : (L2.upd H1 dx (.own c)) c = none := by rw [upd_ne n3.symm]; exact n1
  refine ⟨And1 (fun _ => False) c, c, dx, em, v, _, rfl, ke, upd_same, .inr rfl, fun a ha => ?_, DG.and1 n1' (g1.same sN), ok, ht, fun H' kp ct => ⟨rfl, q c H' (fun b o eb => ?_) ?_⟩⟩
  · rcases ha with ha | ha
    · exact ha.elim
    · rw [ha, upd_same]; exact fun z => by cases z
  · have e2 := s1 b o eb
    exact kp b o (fun z => by rw [z, n1] at e2; cases e2) ((sN.trans (same_new n1')) b o e2)
  · rw [zsOf_tup] at ct; exact ct
theorem e_cat2 (cC : MakN X.prog X.w X.K X.mg X.base (L2.CX X.prog X.w) 5 "Catalog" C (spCat C CH CI)) (hr : Room j X.A) (hk : 6 ≤ j) (he1 : Lit e1 d1) (he2 : Lit e2 d2) (ok1 : okS d1 = true) (ok2 : okSteps d2) (hb : catB d1 d2 = true)
    (q : ∀ c H', Same H H' → CatAt C CH H' c (srt (zsOf d1)) (srtD (seqD d2)) → Q (.ref c) H') (hg : Gl X "Catalog" := by rfl) (hs : starEach [e1, e2] X.env = (false, eval e1 X.env) :: starEach [e2] X.env := by rfl) (hs2 : starEach [e2] X.env = (false, eval e2 X.env) :: starEach [] X.env := by rfl)
    (hpl : (backTo pos (starEach [e2] X.env)).any (·.1) = false := by rfl) : WE X (.Call (.Name "Catalog" p) [e1, e2] [] pos) σ H Q := by
  refine e_makeD (MakN.toD cC) takes0 hr hk (a_cons (e_lit he1 (S := fun _ => False) (fun a h => h.elim) fun v H1 s1 g1 => a_cons (e_lit he2 (S := fun _ => False) (fun a h => h.elim) fun u H2 s2 g2 => a_nil fun c dx n1 n2 n3 => ?_) hs2) hs) hg (by decide) hs hpl
  have sN : Same H2 (L2.upd H2 dx (.own c)) := same_new n2
  have n1' : (L2.upd H2 dx (.own c)) c = none := by rw [upd_ne n3.symm]; exact n1
  refine ⟨And1 (fun _ => False) c, c, dx, v, u, d1, d2, rfl, upd_same, .inr rfl, fun a ha => ?_, DG.and1 n1' ((g1.same s2).same sN), DG.and1 n1' (g2.same sN), ok1, ok2, fun _ H' kp ct => ⟨rfl, q c H' (fun b o eb => ?_) ct⟩, fun h => by rw [hb] at h; cases h⟩
  · rcases ha with ha | ha
    · exact ha.elim
    · rw [ha, upd_same]; exact fun z => by cases z
  · have e2 := s2 b o (s1 b o eb)
    exact kp b o (fun z => by rw [z, n1] at e2; cases e2) ((sN.trans (same_new n1')) b o e2)
end
section
variable {P : Program} {w : World} {K : PySem.W.Frag} {mg : Str → Option Value} {base : Heap}
theorem scLaw : FnScope nLaw ["_law_script"] (defScope sLaw) := ⟨rfl, rfl, rfl, by decide +kernel, rfl, by decide +kernel, by decide +kernel⟩
theorem ok_law {C CH CI em f : Addr} {fd : FuncData} (F : Fun K "law" "law" sLaw f fd) (G : Bf w K mg) (Gn : Bn mg) (I : Bi K mg C) (ke : KEmp K em) (cP : CalN P w K mg base 1 "_law_pen" (spPen K)) (cD : CalN P w K mg base 2 "_law_draw" spDraw) (cS : CalN P w K mg base 3 "_law_some" (spGen PreSome PhiSome 100)) (cB : CalN P w K mg base 3 "_law_bent" spBent) (cR : CalG P w K mg base 8 "_law_right" spRight)
    (cC : MakN P w K mg base (L2.CX P w) 5 "Catalog" C (spCat C CH CI)) (cC0 : MakD P w K mg base (L2.CX P w) 5 "Catalog" C [.ref em] (spCat0 K C CH)) (pC : PrpN P w K mg base 1 C "casts" (spCas C CH)) (cE : EqN P w K mg base 1 C (spEq C CH)) (hsub : PySem.W.subIn K (.type "tuple") (.ref C) = some false) :
    FnG P w K mg base 10 f fd ["_law_script"] (spLaw K) := by
  refine Fun.okG F scLaw (fun vs H Q E h => by obtain ⟨a, ns, rfl, _⟩ := h; rfl) (fun cdv B out s H vs Q E hr hG h => ?_)
  obtain ⟨a, ns, rfl, hS, hl, q⟩ := h
  refine l_cons (s_set 1 (e_c cP hr (by decide) (a_cons (e_var 0 rfl (a_nil ⟨a, ns, rfl, hS, hl, fun p L H1 s1 hp hL P1 => ?_⟩)))) scLaw.nd)
  show WL _ _ _ [some (.ref a), some (.ref p), none, none, none, none, none, none, none] _
  refine l_cons (s_forR Gn.range (pg_name (i := 2) scLaw.nd rfl (.inl rfl)) (e_int ⟨30, rfl, by decide, fun i σ H' => ∃ x2 x3 x4 x5 x6 x7 x8, σ = [some (.ref a), some (.ref p), x2, x3, x4, x5, x6, x7, x8] ∧ Pen H' p L (i * 200) ∧ i ≤ 30, ⟨_, _, _, _, _, _, _, rfl, P1, by decide⟩, ?_, ?_⟩) PassesOwn.never)
  · rintro i σ H2 hi ⟨x2, x3, x4, x5, x6, x7, x8, rfl, P2, _⟩
    show WL _ _ _ [some (.ref a), some (.ref p), some (.int i), x3, x4, x5, x6, x7, x8] _
    have dom2 : ∀ {n : Nat} {H' : Hp}, Pen H' p L n → ∀ b, (b = p ∨ b = L) → H' b ≠ none := fun P b hb => by
      rcases hb with rfl | rfl
      · obtain ⟨ys, h⟩ := P.p; rw [h]; exact fun z => by cases z
      · obtain ⟨ys, h⟩ := P.l; rw [h]; exact fun z => by cases z
    -- the types
    refine l_cons (s_set 3 (e_c cS hr (by decide) (a_cons (e_var 1 rfl (a_cons (e_lit (d := .list (pool5.map PyData.str)) (.lst (.cons (.str _) (.cons (.str _) (.cons (.str _) (.cons (.str _) (.cons (.str _) .nil))))) (by show 5 ≤ sizeLine; decide)) (S := fun b => b = p ∨ b = L) (dom2 P2) fun v3 H3 s3 g3 => a_cons (e_int (a_nil ?_))))))) scLaw.nd)
    have P3 := P2.same s3
    refine ⟨p, L, i * 200, fun b => b = p ∨ b = L, [v3, .int 5], [.list (pool5.map PyData.str), .int 5], rfl, .inl rfl, dom2 P3, .cons g3 (.cons (.int 5) .nil), P3, by omega, ⟨pool5, 5, rfl, by decide, by decide⟩, fun v4 d4 H4 b4 P4 g4 φ4 => ?_⟩
    obtain ⟨ys, rest, rfl, pm, ly⟩ := φ4 pool5 5 rfl
    have my : ∀ z ∈ ys, z ∈ pool5 := fun z m => pm.mem_iff.mp (List.mem_append_left _ m)
    obtain ⟨so, xs, rfl, hso, nso, gs4⟩ := DG.lstU g4
    have exs := gs4.unstr
    subst exs
    have nsp : so ≠ p := fun e => nso (.inl e)
    have nsL : so ≠ L := fun e => nso (.inr e)
    show WL _ _ _ [some (.ref a), some (.ref p), some (.int i), some (.ref so), x4, x5, x6, x7, x8] H4
    -- the pairs
    refine l_cons (s_lcLw 4 7 scLaw.nd (blkOk_by (N := nLaw) (sc := defScope sLaw) (by decide +kernel)) (e_var 3 rfl ⟨so, _, rfl, .inl (.inl hso), fun D nD => ?_⟩) (fun _ _ _ _ _ => pg_name (i := 7) scLaw.nd rfl (Or.inl rfl)) (sw_true rfl rfl rfl (by decide +kernel)))
    have nDp : D ≠ p := P4.newP nD
    have nDL : D ≠ L := P4.newL nD
    have nDs : D ≠ so := (ne_of_none hso nD).symm
    refine ⟨fun k H' => ∃ (acc : List V) (ps : List (Str × Str)), (∀ b o, b ≠ p → b ≠ D → H4 b = some o → H' b = some o) ∧ Pen H' p L (i * 200 + 100 + 2 * k) ∧ H' D = some (.lst acc) ∧ acc.length = k ∧ k ≤ 5 ∧ DTs H' acc (ps.map prD) ∧ ∀ q ∈ ps, q.1 ∈ ys ∧ q.2 ∈ ys, ?_, ?_, ?_, ?_⟩
    · exact ⟨[], [], fun b o _ nb e => by rw [upd_ne nb]; exact e, P4.same (same_new nD), upd_same, rfl, by decide, .nil, fun q m => by cases m⟩
    · rintro k H' _ ⟨acc, ps, k1, _⟩
      exact .inl (.inl (k1 so _ nsp nDs.symm hso))
    · rintro k y H' hy ⟨acc, ps, k1, k2, k3, k4, k5, k6, k7⟩ s0 H00 Cc cl fp
      have lk : k < ys.length := by have := (List.getElem?_eq_some_iff.mp hy).1; rw [List.length_map] at this; exact this
      have h5 := k1 so _ nsp nDs.symm hso
      refine e_tup (a_cons (e_ixL (e_var 3 rfl (e_c cD hr (by decide) (a_cons (e_var 1 rfl (a_cons (e_len G.len (e_var 3 rfl ⟨so, _, rfl, .inl (.inl (.inl h5)), ?_⟩)))))))))
      refine a_nil ⟨p, L, i * 200 + 100 + 2 * k, _, rfl, k2, by omega, ?_, ?_, fun d5 H5 b5 P5 hd5 => ?_⟩
      · rw [List.length_map]; omega
      · rw [List.length_map]; omega
      rw [List.length_map] at hd5
      have ld5 : d5 < ys.length := by omega
      have h6 := b5 _ _ nsp h5
      refine ⟨so, _, d5, .str ys[d5], rfl, rfl, .inl (.inl h6), atI_nat (by rw [List.getElem?_map, List.getElem?_eq_getElem ld5]; rfl), ?_⟩
      refine a_cons (e_ixL (e_var 3 rfl (e_c cD hr (by decide) (a_cons (e_var 1 rfl (a_cons (e_len G.len (e_var 3 rfl ⟨so, _, rfl, .inl (.inl (.inl h6)), ?_⟩))))))))
      refine a_nil ⟨p, L, i * 200 + 100 + 2 * k + 1, _, rfl, P5, by omega, ?_, ?_, fun d6 H6 b6 P6 hd6 => ?_⟩
      · rw [List.length_map]; omega
      · rw [List.length_map]; omega
      rw [List.length_map] at hd6
      have ld6 : d6 < ys.length := by omega
      have h7 := b6 _ _ nsp h6
      refine ⟨so, _, d6, .str ys[d6], rfl, rfl, .inl (.inl h7), atI_nat (by rw [List.getElem?_map, List.getElem?_eq_getElem ld6]; rfl), a_nil ⟨by show 2 ≤ sizeLine; decide, fun t ht => ?_⟩⟩
      have st := same_new (o := .tup [V.str ys[d5], .str ys[d6]]) ht
      have hD6 : (upd H6 t (.tup [V.str ys[d5], .str ys[d6]])) D = some (.lst acc) := st _ _ (b6 _ _ nDp (b5 _ _ nDp k3))
      refine ⟨acc, hD6, by rw [k4]; exact Nat.lt_of_le_of_lt (show k ≤ 5 by omega) (by decide), acc ++ [.ref t], ps ++ [(ys[d5], ys[d6])], fun b o n1 n2 e => ?_, ?_, upd_same, by rw [List.length_append, k4]; rfl, by omega, ?_, fun q m => ?_⟩
      · rw [upd_ne n2]; exact st _ _ (b6 _ _ n1 (b5 _ _ n1 (k1 _ _ n1 n2 e)))
      · exact (P6.same st).upd nDp nDL
      · have tp : Tup H' (upd (upd H6 t (.tup [V.str ys[d5], .str ys[d6]])) D (.lst (acc ++ [.ref t]))) := fun b zs e => by
          rw [upd_ne (fun z => by rw [z, k3] at e; cases e)]
          exact st _ _ (P5.tups b6 _ _ (k2.tups b5 _ _ e))
        rw [List.map_append]
        refine (k6.mono tp).append (.cons (.tup (xs := [V.str ys[d5], .str ys[d6]]) ?_ (.cons (.str _) (.cons (.str _) .nil))) .nil)
        rw [upd_ne (fun z => by rw [z, upd_same] at hD6; cases hD6)]
        exact upd_same
      · rcases List.mem_append.mp m with m | m
        · exact k7 q m
        · rw [List.mem_singleton.mp m]; exact ⟨List.getElem_mem _, List.getElem_mem _⟩
    rintro H5 ⟨acc, ps, k1, k2, k3, k4, k5, k6, k7⟩
    rw [List.length_map] at k2 k4 k5
    have P5 : Pen H5 p L (i * 200 + 110) := k2.mono (by omega)
    have hso5 := k1 so _ nsp nDs.symm hso
    have lps : ps.length ≤ 5 := by have := k6.length; rw [List.length_map] at this; omega
    show WL _ _ _ [some (.ref a), some (.ref p), some (.int i), some (.ref so), some (.ref D), x5, x6, x7, x8] H5
    -- the steps
    refine l_cons (WS.cut (P := fun σ H6 => ∃ (st : Addr) (zs : List V) (qs : List (Str × Str)), σ = [some (.ref a), some (.ref p), some (.int i), some (.ref so), some (.ref D), some (.ref st), x6, x7, x8] ∧ Pen H6 p L (i * 200 + 111) ∧ H6 so = some (.lst (ys.map V.str)) ∧ H6 st = some (.lst zs) ∧ st ≠ p ∧ st ≠ L ∧ DTs H6 zs (qs.map prD) ∧ qs.length ≤ 5 ∧ ∀ q ∈ qs, q.1 ∈ ys ∧ q.2 ∈ ys) (s_set 5 (e_if (t_gt (e_c cD hr (by decide) (a_cons (e_var 1 rfl (a_cons (e_int (a_nil ⟨p, L, i * 200 + 110, 3, rfl, P5, by omega, by decide, by decide, fun d6 H6 b6 P6 hd6 => e_int ⟨_, _, rfl, rfl, fun _ => ?_, fun _ => e_var 4 rfl ?_⟩⟩)))))))) scLaw.nd) ?_)
    · have g6 : DG (fun b => b = p ∨ b = L) H6 (.ref D) (.list (ps.map prD)) := .lst (b6 _ _ nDp k3) (fun z => z.elim nDp nDL) (DGs.of (k6.mono (P5.tups b6)))
      have sl : SL (fun b => b = p ∨ b = L) H6 [some (.ref a), some (.ref p), some (.int i), some (.ref so), some (.ref D), x5, x6, x7, x8] [none, none, none, none, some (.list (ps.map prD)), none, none, none, none] := ⟨dom2 P6, fun i d q => (by
        match i, q with
        | 4, q => cases q; exact ⟨_, rfl, g6⟩
        | 0, q => cases q
        | 1, q => cases q
        | 2, q => cases q
        | 3, q => cases q
        | 5, q => cases q
        | 6, q => cases q
        | 7, q => cases q
        | 8, q => cases q
        | n + 9, q => cases q), rfl⟩
      refine ed_go (d_lcLI 8 (fun d => !decide ((pr d).1 = (pr d).2)) id scLaw.nd (blkOk_by (N := nLaw) (sc := defScope sLaw) (by decide +kernel)) (d_var 4) (by rw [List.length_map]; omega) (fun d hd s0 H00 Cc cl fp => ?_) (fun d hd _ s0 H00 Cc cl fp => d_var 8) (fun _ _ _ _ _ => pg_name (i := 8) scLaw.nd rfl (Or.inl rfl))) sl fun v H7 s7 g7 => ?_
      · obtain ⟨q, _, rfl⟩ := List.mem_map.mp hd
        exact td_cmp (o_neS hr.units) (d_at (d := prD q) (n := 0) (d_var 8) rfl (by show 0 < 2; decide)) (d_at (d := prD q) (n := 1) (d_var 8) rfl (by show 1 < 2; decide)) ⟨q.2, rfl, rfl⟩
      · have ef : (((ps.map prD).filter fun d => !decide ((pr d).1 = (pr d).2)).map id) = (ps.filter fun q => !decide (q.1 = q.2)).map prD := by
          rw [List.map_id, List.filter_map]; rfl
        rw [ef] at g7
        obtain ⟨st, zs, rfl, hst, nst, gz⟩ := DG.lstU g7
        exact ⟨st, zs, _, rfl, P6.same s7, s7 _ _ (b6 _ _ nsp hso5), hst, fun e => nst (.inl e), fun e => nst (.inr e), gz.toDT (tupOnly_prs _), Nat.le_trans (List.length_filter_le _ _) lps, fun q m => k7 q (List.mem_filter.mp m).1⟩
    · exact ⟨D, acc, ps, rfl, P6, b6 _ _ nsp hso5, b6 _ _ nDp k3, nDp, nDL, k6.mono (P5.tups b6), lps, k7⟩
    rintro σ6 H6 ⟨st, zs, qs, rfl, P6, hso6, hst6, nstp, nstL, gz6, lqs, mqs⟩
    have yX : ∀ x ∈ ys.map PyData.str, okX x := fun x m => by
      obtain ⟨z, hz, rfl⟩ := List.mem_map.mp m
      exact str_X (str_T (my z hz))
    have qX : ∀ x ∈ qs.map prD, okX x := fun x m => by
      obtain ⟨z, hz, rfl⟩ := List.mem_map.mp m
      exact okX_prD (my _ (mqs z hz).1) (my _ (mqs z hz).2)
    have yl : (ys.map PyData.str).length ≤ 50 := by rw [List.length_map]; omega
    have ql : (qs.map prD).length ≤ 50 := by rw [List.length_map]; omega
    -- bent, bent
    refine l_one (s_if (t_w (w_or (t_not (t_val (e_cG cR hr hG (by decide) ?_))))))
    refine a_cons (e_c cB hr (by decide) (a_cons (e_var 1 rfl (a_cons (e_var 3 rfl (a_nil ⟨p, L, i * 200 + 111, so, _, _, rfl, P6, by omega, hso6, nsp, dts_str ys, yl, fun u1 d1 H7 b7 P7 g7 e7 => ?_⟩))))))
    have hst7 := b7 _ _ nstp hst6
    refine a_cons (e_c cB hr (by decide) (a_cons (e_var 1 rfl (a_cons (e_var 5 rfl (a_nil ⟨p, L, i * 200 + 113, st, _, _, rfl, P7, by omega, hst7, nstp, gz6.mono (P6.tups b7), ql, fun u2 d2 H8 b8 P8 g8 e8 => ?_⟩))))))
    obtain ⟨m1, st1, l1⟩ := bent_ok e7 yX yl
    obtain ⟨m2, st2, l2⟩ := bent_ok e8 qX ql
    have np6 : H6 p ≠ none := dom2 P6 p (.inl rfl)
    have nL6 : H6 L ≠ none := dom2 P6 L (.inr rfl)
    have old7 : ∀ b, H6 b ≠ none → H7 b ≠ none := fun b n => by
      by_cases e : b = p
      · rw [e]; exact dom2 P7 p (.inl rfl)
      · cases z : H6 b with
        | none => exact absurd z n
        | some o => rw [b7 _ _ e z]; exact fun z => by cases z
    have old8 : ∀ b, H6 b ≠ none → H8 b ≠ none := fun b n => by
      by_cases e : b = p
      · rw [e]; exact dom2 P8 p (.inl rfl)
      · cases z : H7 b with
        | none => exact absurd z (old7 b n)
        | some o => rw [b8 _ _ e z]; exact fun z => by cases z
    have g7' : DG (fun b => H6 b ≠ none) H8 u1 d1 := g7.mono (P7.tups b8) fun b o n e => ⟨n, b8 _ _ (fun z => n (z ▸ np6)) e⟩
    have g8' : DG (fun b => H6 b ≠ none) H8 u2 d2 := g8.mono (Tup.refl _) fun b o n e => ⟨fun z => n (old7 b z), e⟩
    refine a_nil ⟨fun b => H6 b ≠ none, u1, u2, d1, d2, rfl, old8, g7', g8', m1, m2, st2, l1, fun H9 F9 => ⟨true, rfl, (fun h => by cases h), fun _ => ?_⟩⟩
    obtain ⟨yp, hp8⟩ := P8.p
    obtain ⟨yL, hL8⟩ := P8.l
    have P9 : Pen H9 p L (i * 200 + 115) := P8.at (by rw [hp8]; exact F9.old g7' g8' np6 hp8) (by rw [hL8]; exact F9.old g7' g8' nL6 hL8)
    have hso9 := F9.old g7' g8' (show H6 so ≠ none from by rw [hso6]; exact fun z => by cases z) (b8 _ _ nsp (b7 _ _ nsp hso6))
    have hst9 := F9.old g7' g8' (show H6 st ≠ none from by rw [hst6]; exact fun z => by cases z) (b8 _ _ nstp hst7)
    have tp9 : Tup H6 H9 := fun b xs e => F9.non b _ (fun ys z => by cases z) (P7.tups b8 _ _ (P6.tups b7 _ _ e))
    -- as they are
    refine w_or1 (t_not (t_val (e_cG cR hr hG (by decide) (a_cons (e_var 3 rfl (a_cons (e_var 5 rfl (a_nil ?_))))))))
    have ga : DG (fun b => b = p ∨ b = L) H9 (.ref so) (.list (ys.map PyData.str)) := .lst hso9 (fun z => z.elim nsp nsL) (DGs.of (dts_str ys))
    have gb : DG (fun b => b = p ∨ b = L) H9 (.ref st) (.list (qs.map prD)) := .lst hst9 (fun z => z.elim nstp nstL) (DGs.of (gz6.mono tp9))
    refine ⟨fun b => b = p ∨ b = L, .ref so, .ref st, _, _, rfl, dom2 P9, ga, gb, okM_lst (fun x m => (yX x m).1) (by omega), okM_lst (fun x m => (qX x m).1) (by omega), okSteps_of (.inr rfl) qX (by omega), (by show (ys.map PyData.str).length ≤ 60; omega), fun H10 F10 => ⟨true, rfl, (fun h => by cases h), fun _ => l_nil ?_⟩⟩
    obtain ⟨yp9, hp9⟩ := P9.p
    obtain ⟨yL9, hL9⟩ := P9.l
    have P10 : Pen H10 p L (i * 200 + 115) := P9.at (by rw [hp9]; exact F10.old ga gb (.inl rfl) hp9) (by rw [hL9]; exact F10.old ga gb (.inr rfl) hL9)
    exact ⟨_, _, _, _, _, _, _, rfl, P10.mono (by omega), by omega⟩
  · rintro σ H2 ⟨x2, x3, x4, x5, x6, x7, x8, rfl, P2, _⟩
    show WL _ _ _ [some (.ref a), some (.ref p), x2, x3, x4, x5, x6, x7, x8] _
    refine l_cons (s_for (pi_tup pE) (pg_name (i := 5) scLaw.nd rfl (.inl rfl)) (e_tup ?_) PassesOwn.never)
    refine a_cons (e_lit (d := .list [.tuple [.str "a", .str "b", .str "c"]]) (.lst (.cons (.tup (.cons (.str _) (.cons (.str _) (.cons (.str _) .nil))) (by decide)) .nil) (by decide)) (S := fun b => H2 b ≠ none) (fun _ h => h) fun u1 G1 t1 g1 => ?_)
    refine a_cons (e_lit (d := .list [.list [.str "a", .str "b"]]) (.lst (.cons (.lst (.cons (.str _) (.cons (.str _) .nil)) (by decide)) .nil) (by decide)) (S := fun b => G1 b ≠ none) (fun _ h => h) fun u2 G2 t2 g2 => ?_)
    refine a_cons (e_lit (d := .list [.tuple [.str "a"]]) (.lst (.cons (.tup (.cons (.str _) .nil) (by decide)) .nil) (by decide)) (S := fun b => G2 b ≠ none) (fun _ h => h) fun u3 G3 t3 g3 => ?_)
    refine a_cons (e_lit (d := .list [.str "ab"]) (.lst (.cons (.str _) .nil) (by decide)) (S := fun b => G3 b ≠ none) (fun _ h => h) fun u4 G4 t4 g4 => ?_)
    refine a_cons (e_lit (d := .list [.tuple [.str "a", .str "b"], .list [.str "b", .str "a"]]) (.lst (.cons (.tup (.cons (.str _) (.cons (.str _) .nil)) (by decide)) (.cons (.lst (.cons (.str _) (.cons (.str _) .nil)) (by decide)) .nil)) (by decide)) (S := fun b => G4 b ≠ none) (fun _ h => h) fun u5 G5 t5 g5 => ?_)
    refine a_nil ⟨by show 5 ≤ sizeLine; decide, fun t ht => ⟨t, rfl, ⟨_, .inl (.inl upd_same)⟩, for_tup (xs := [u1, u2, u3, u4, u5]) (fun k σ' H' => (∃ x5, σ' = [some (.ref a), some (.ref p), x2, x3, x4, x5, x6, x7, x8]) ∧ H' t = some (.tup [u1, u2, u3, u4, u5]) ∧ ∃ S, Ch H' S (([u1, u2, u3, u4, u5] : List V).drop k) (lits.drop k)) ⟨⟨x5, rfl⟩, upd_same, ?_⟩ (fun k σ' H' _ h => .inl (.inl h.2.1)) ?_ ?_⟩⟩
    · have s5 := same_new (o := .tup [u1, u2, u3, u4, u5]) ht
      have s4 := t5.trans s5
      have s3 := t4.trans s4
      have s2 := t3.trans s3
      have s1 := t2.trans s2
      refine ⟨_, .cons (T := fun b => G1 b ≠ none) (g1.same s1) (in_same t1 fun _ h => h) (fun b e => DG.some (e ▸ g1)) (.cons (T := fun b => G2 b ≠ none) (g2.same s2) (in_same t2 fun _ h => h) (fun b e => DG.some (e ▸ g2)) (.cons (T := fun b => G3 b ≠ none) (g3.same s3) (in_same t3 fun _ h => h) (fun b e => DG.some (e ▸ g3))
        (.cons (T := fun b => G4 b ≠ none) (g4.same s4) (in_same t4 fun _ h => h) (fun b e => DG.some (e ▸ g4)) (.cons (T := fun b => G5 b ≠ none) (g5.same s5) (in_same t5 fun _ h => h) (fun b e => DG.some (e ▸ g5)) .nil))))⟩
    · rintro k y σ' H3 hy ⟨⟨z5, rfl⟩, ht3, S, ch⟩
      obtain ⟨T, d, gy, md, ty, ch'⟩ := ch.at hy
      obtain ⟨ds, rfl, ld, xd⟩ := lits_ok d md
      show WL _ _ _ [some (.ref a), some (.ref p), x2, x3, x4, some y, x6, x7, x8] H3
      refine l_one (s_if (t_not (t_val (e_cG cR hr hG (by decide) (a_cons (e_lit (d := .list abc) (.lst (.cons (.str _) (.cons (.str _) (.cons (.str _) .nil))) (by decide)) (S := fun b => H3 b ≠ none) (fun _ h => h) fun v H4 s4 g4 => a_cons (e_var 5 rfl (a_nil ?_))))))))
      have gF : DG (fun _ => False) H4 v (.list abc) := g4.mono (Tup.refl _) fun b o n e => ⟨id, e⟩
      have yF : DG (fun _ => False) H4 y (.list ds) := (gy.same s4).mono (Tup.refl _) fun b o n e => ⟨id, e⟩
      refine ⟨fun _ => False, v, y, _, _, rfl, fun _ h => h.elim, gF, yF, okM_lst (fun x m => T_of (abc_T x m)) (by decide), okM_lst (fun x m => (xd x m).1) ld, okSteps_of (.inr rfl) xd ld, by decide, fun H5 F5 => ⟨true, rfl, (fun h => by cases h), fun _ => l_nil ⟨⟨_, rfl⟩, F5.non t _ (fun xs z => by cases z) (s4 _ _ ht3), T, ch'.mono (fun b xs e => F5.non b _ (fun xs z => by cases z) (s4 _ _ e)) fun b o n e => F5 b o (s4 _ _ e) (.inr ⟨fun z => ?_, fun z => n (ty b z.symm)⟩)⟩⟩⟩
      obtain ⟨l, xs, rfl, _, nl, _⟩ := DG.lstU g4
      cases z
      exact nl (by rw [e]; exact fun z => by cases z)
    rintro σ' H3 ⟨⟨z5, rfl⟩, _⟩
    show WL _ _ _ [some (.ref a), some (.ref p), x2, x3, x4, z5, x6, x7, x8] H3
    -- a catalog without casts, and what it is equal to
    refine l_cons (s_set 6 (e_cat0 (zs := oneT "text") cC0 ke hr (by decide) (.tup (.cons (.str _) .nil) (by decide)) (by decide) (by decide +kernel) fun c H4 s4 ct => ?_) scLaw.nd)
    have et : srt (oneT "text") = oneT "text" := srt1 _
    rw [et] at ct
    show WL _ _ _ [some (.ref a), some (.ref p), x2, x3, x4, z5, some (.ref c), x7, x8] H4
    obtain ⟨dx, fs, _, _, _, hins, _⟩ := id ct
    refine l_cons (s_if (t_w (w_or (t_neD hr.units (e_prop pC I.cl hr (by decide) (e_var 6 rfl ⟨c, dx, fs, rfl, hins, c, _, _, rfl, ct, fun kv dk => e_tup (a_nil ⟨Nat.zero_le _, fun r hr0 => ?_⟩)⟩))))))
    have s5 := same_new (o := .tup []) hr0
    refine ⟨.tuple [], .tuple [], (dk.mono (My.Same.tups s5)).dp, .tup (.inl (.inl upd_same)) .nil, rfl, rfl, (fun h => by cases h), fun _ => ?_⟩
    have ct5 := ct.keep (H' := upd H4 r (.tup [])) fun b o _ e => s5 _ _ e
    generalize upd H4 r (.tup []) = H5 at ct5
    refine w_or (t_cmp (op_neOwn cE hr hr.units (by decide)) (e_var 6 rfl (e_cat2 (d1 := .list [.str "text"]) (d2 := .list []) cC hr (by decide) (.lst (.cons (.str _) .nil) (by decide)) (.lst .nil (by decide)) (by decide) ⟨by decide, by decide, fun x m => by cases m⟩ (by decide +kernel) fun c2 H6 s6 ct6 => ?_)))
    have e6 : srt (zsOf (.list [.str "text"])) = oneT "text" := srt1 _
    have e7 : srtD (seqD (.list [])) = [] := srtD_nil
    rw [e6, e7] at ct6
    have ct5 := ct5.keep (H' := H6) fun b o _ e => s6 _ _ e
    refine Two.own (bb := true) ⟨c, c2, _, _, _, _, rfl, rfl, ct5, ct6, by decide +kernel, by decide +kernel, by decide +kernel, by decide +kernel, by decide +kernel⟩ ⟨_, rfl, (fun h => by cases h), fun _ => ?_⟩
    refine w_or (t_cmp (op_eqOwn cE hr (by decide)) (e_var 6 rfl (e_cat0 (zs := oneT "word") cC0 ke hr (by decide) (.tup (.cons (.str _) .nil) (by decide)) (by decide) (by decide +kernel) fun c3 H7 s7 ct7 => ?_)))
    have et2 : srt (oneT "word") = oneT "word" := srt1 _
    rw [et2] at ct7
    have ct5 := ct5.keep (H' := H7) fun b o _ e => s7 _ _ e
    refine Two.own (bb := false) ⟨c, c3, _, _, _, _, rfl, rfl, ct5, ct7, by decide +kernel, by decide +kernel, by decide +kernel, by decide +kernel, by decide +kernel⟩ ⟨_, rfl, (fun h => by cases h), fun _ => ?_⟩
    refine w_or1 (t_cmp (op_eqOwn cE hr (by decide)) (e_var 6 rfl (e_tup (a_cons (e_str (a_nil ⟨by show 1 ≤ sizeLine; decide, fun m hm => ?_⟩))))))
    have s8 := same_new (o := .tup [V.str "text"]) hm
    have ct5 := ct5.keep (H' := upd H7 m (.tup [V.str "text"])) fun b o _ e => s8 _ _ e
    obtain ⟨dx, fs, _, _, _, hins, _⟩ := id ct5
    refine ⟨c, dx, fs, rfl, hins, .tup (.inl (.inl upd_same)) hsub, c, .ref m, _, _, rfl, ct5, by decide +kernel, by decide +kernel, .inr ⟨m, _, rfl, upd_same, _, rfl, _, rfl, (fun h => by cases h), fun _ => l_nil ?_⟩⟩
    generalize upd H7 m (.tup [V.str "text"]) = H8
    show WL _ _ _ [some (.ref a), some (.ref p), x2, x3, x4, z5, some (.ref c), x7, x8] H8
    -- the last
    have eab : srt (("a" : Str) :: "b" :: []) = (("a" : Str) :: "b" :: []) := ab_srt
    refine l_one (s_ret (e_and (e_cmp (op_neOwn cE hr hr.units (by decide)) (e_cat2 (d1 := .tuple [.str "a", .str "b"]) (d2 := .list [.tuple [.str "a", .str "b"]]) cC hr (by decide) (.tup (.cons (.str _) (.cons (.str _) .nil)) (by decide)) (.lst (.cons (.tup (.cons (.str _) (.cons (.str _) .nil)) (by decide)) .nil) (by decide)) (by decide) (okSteps_of (.inr rfl) (fun x m => ?_) (by decide)) (by decide +kernel) fun c1 G1 t1 k1 =>
      e_cat0 (zs := ("a" : Str) :: "b" :: []) cC0 ke hr (by decide) (.tup (.cons (.str _) (.cons (.str _) .nil)) (by decide)) (by decide) (by decide +kernel) fun c2 G2 t2 k2 => ?_))))
    · rw [List.mem_singleton.mp m]; exact ⟨T_of (by decide +kernel), fun _ => ⟨("a", "b"), rfl⟩⟩
    have e8 : srt (zsOf (.tuple [.str "a", .str "b"])) = (("a" : Str) :: "b" :: []) := ab_srt
    have e9 : srtD (seqD (.list [.tuple [.str "a", .str "b"]])) = [.tuple [.str "a", .str "b"]] := srtD1 _
    rw [e8, e9] at k1
    rw [ab_srt] at k2
    have k1 := k1.keep (H' := G2) fun b o _ e => t2 _ _ e
    refine Two.own (bb := false) ⟨c1, c2, _, _, _, _, rfl, rfl, k1, k2, by decide +kernel, by decide +kernel, by decide +kernel, by decide +kernel, by decide +kernel⟩ ⟨_, rfl, (fun _ => ?_), fun h => by cases h⟩
    refine e_one (e_cmp (op_eqOwn cE hr (by decide)) (e_cat0 (zs := ("b" : Str) :: "a" :: []) cC0 ke hr (by decide) (.tup (.cons (.str _) (.cons (.str _) .nil)) (by decide)) (by decide) (by decide +kernel) fun c3 G3 t3 k3 =>
      e_cat0 (zs := ("a" : Str) :: "b" :: []) cC0 ke hr (by decide) (.tup (.cons (.str _) (.cons (.str _) .nil)) (by decide)) (by decide) (by decide +kernel) fun c4 G4 t4 k4 => ?_))
    rw [ba_srt] at k3
    rw [ab_srt] at k4
    have k3 := k3.keep (H' := G4) fun b o _ e => t4 _ _ e
    exact Two.own (bb := true) ⟨c3, c4, _, _, _, _, rfl, rfl, k3, k4, by decide +kernel, by decide +kernel, by decide +kernel, by decide +kernel, by decide +kernel⟩ (q G4)
end
end K02

namespace K02
open PySem PySem.Spec PyProof.Rows L2 My
theorem kit_val {K : PySem.W.Frag} {D : Addr} (h : PySem.W.subIn K (.ref D) (.type "ValueError") = some true) : PySem.W.kitOne K (.ref D) (.type "ValueError") = some true := by
  have n : ¬ ((Value.ref D == Value.type "ValueError") = true) := fun z => by cases eq_of_beq z
  unfold PySem.W.kitOne
  rw [if_neg n]
  show (if PySem.W.kitMeta "ValueError" = true then PySem.W.subIn K (.ref D) (.type "ValueError") else none) = some true
  rw [if_pos (by decide), h]
theorem kit_tupC {K : PySem.W.Frag} {C : Addr} (hc : (PySem.W.clsIn K C).isSome = true) (ht : PySem.W.typeIn K (.ref C) = some (.type "type")) (hs : PySem.W.subIn K (.type "tuple") (.ref C) = some false) : PySem.W.kitOne K (.type "tuple") (.ref C) = some false := by
  have n : ¬ ((Value.type "tuple" == Value.ref C) = true) := fun z => by cases eq_of_beq z
  unfold PySem.W.kitOne
  rw [if_neg n]
  show (if ((PySem.W.clsIn K C).isSome && PySem.W.typeIn K (.ref C) == some (.type "type")) = true then PySem.W.subIn K (.type "tuple") (.ref C) else none) = some false
  have e2 : ((PySem.W.clsIn K C).isSome && PySem.W.typeIn K (.ref C) == some (.type "type")) = true := by rw [hc, ht]; rfl
  rw [if_pos e2, hs]
theorem cls_some {K : PySem.W.Frag} {C : Addr} (h : PySem.W.hasDictIn K C = true) : (PySem.W.clsIn K C).isSome = true := by
  unfold PySem.W.hasDictIn at h
  cases e : PySem.W.clsIn K C with
  | some _ => rfl
  | none => rw [e] at h; cases h
/-! ### what the top has written -/
structure Wr (K : PySem.W.Frag) (x : Str) (st : Stmt) (f : Addr) (fd : FuncData) : Prop where
  fn : Fun K x x st f fd
  a : PySem.W.nsIn K mainGlobals x = some (some (.ref f))
theorem Wr.mg {K : PySem.W.Frag} {x : Str} {st : Stmt} {f : Addr} {fd : FuncData} {h : Heap} {mg : Str → Option Value} (W : Wr K x st f fd) (X : K.In h) (G : h.Ns mainGlobals mg) : mg x = some (.ref f) := PySem.W.mg_of X G W.a
theorem wr_mk {K : PySem.W.Frag} {x : Str} {st : Stmt} {f : Addr} {oc : Value} {od an : Option Addr} {osl : Array (Option Value)} {kV doc pm cdv ct : Value} (a : PySem.W.nsIn K mainGlobals x = some (some (.ref f))) (l : K.lookup f = some ⟨oc, od, .func (PySem.W.fnOf x x (defArgs st) (defBody st) (defScope st) .none kV doc pm an cdv ct), osl⟩)
    (c : PySem.W.codeIn K cdv x = true) (k : PySem.W.keepIn K (.ref f) = true) : ∃ f fd, Wr K x st f fd := ⟨_, _, fun_mk (st := st) l c k, a⟩
structure Wm (K : PySem.W.Frag) (C : Addr) (m q : Str) (st : Stmt) (f : Addr) (fd : FuncData) : Prop where
  fn : Fun K m q st f fd
  at_ : PySem.W.findIn K (.ref C) m = some (some (.ref f))
  isF : PySem.W.isFn K (.ref f) = true
theorem wm_mk {K : PySem.W.Frag} {C : Addr} {m q : Str} {st : Stmt} {f : Addr} {oc : Value} {od an : Option Addr} {osl : Array (Option Value)} {kV doc pm cdv ct : Value} (a : PySem.W.findIn K (.ref C) m = some (some (.ref f))) (i : PySem.W.isFn K (.ref f) = true) (l : K.lookup f = some ⟨oc, od, .func (PySem.W.fnOf m q (defArgs st) (defBody st) (defScope st) .none kV doc pm an cdv ct), osl⟩)
    (c : PySem.W.codeIn K cdv q = true) (k : PySem.W.keepIn K (.ref f) = true) : ∃ f fd, Wm K C m q st f fd := ⟨_, _, fun_mk (st := st) l c k, a, i⟩
structure Wp (K : PySem.W.Frag) (C : Addr) (m q : Str) (st : Stmt) (p f : Addr) (fd : FuncData) : Prop where
  fn : Fun K m q st f fd
  pr : PropOf K C m p f
theorem wp_mk {K : PySem.W.Frag} {C p : Addr} {m q : Str} {st : Stmt} {f : Addr} {oc : Value} {od an : Option Addr} {osl : Array (Option Value)} {kV doc pm cdv ct : Value} {rest : List Value} (a : PySem.W.findIn K (.ref C) m = some (some (.ref p))) (g : PySem.W.specialIn K (.ref p) "__get__" = some (some (.builtin "property.__get__"))) (t : PySem.W.takesIn K (.ref p) = some true) (r : PySem.W.recIn K p "property" = some (.ref f :: rest))
    (l : K.lookup f = some ⟨oc, od, .func (PySem.W.fnOf m q (defArgs st) (defBody st) (defScope st) .none kV doc pm an cdv ct), osl⟩) (c : PySem.W.codeIn K cdv q = true) (k : PySem.W.keepIn K (.ref f) = true) : ∃ p f fd, Wp K C m q st p f fd := ⟨_, _, _, fun_mk (st := st) l c k, a, g, t, rest, r⟩
/-- a method with one default, the empty tuple -/
structure Wd (K : PySem.W.Frag) (C : Addr) (m q : Str) (st : Stmt) (em f : Addr) (fd : FuncData) : Prop where
  fn : FunD K m q (defArgs st) (defBody st) (defScope st) [.ref em] [] f fd
  at_ : PySem.W.findIn K (.ref C) m = some (some (.ref f))
  isF : PySem.W.isFn K (.ref f) = true
  ke : KEmp K em
theorem wd_mk {K : PySem.W.Frag} {C T em : Addr} {m q : Str} {st : Stmt} {f : Addr} {oc tc ec : Value} {od an td ed : Option Addr} {osl tsl esl : Array (Option Value)} {kV doc pm cdv ct : Value} {its jts : Array Value} {n k' : Nat} (a : PySem.W.findIn K (.ref C) m = some (some (.ref f))) (i : PySem.W.isFn K (.ref f) = true)
    (l : K.lookup f = some ⟨oc, od, .func (PySem.W.fnOf m q (defArgs st) (defBody st) (defScope st) (.ref T) kV doc pm an cdv ct), osl⟩) (c : PySem.W.codeIn K cdv q = true) (k : PySem.W.keepIn K (.ref f) = true) (t : K.lookup T = some ⟨tc, td, .seq its n, tsl⟩) (u : its = #[.ref em])
    (e : K.lookup em = some ⟨ec, ed, .seq jts k', esl⟩) (v : ec = .type "tuple") (w : jts = #[]) : ∃ em f fd, Wd K C m q st em f fd := by
  subst u
  subst v
  subst w
  exact ⟨em, f, _, ⟨⟨oc, od, .ref T, kV, doc, pm, an, cdv, ct, osl, rfl, l, c, .inr ⟨List.cons_ne_nil _ _, T, _, [.ref em], n, rfl, t, rfl, .cons rfl .nil⟩, .inl rfl⟩, k⟩, a, i, ⟨_, #[], k', e, rfl, rfl, Nat.zero_le _, .nil⟩⟩
theorem cst_mk {K : PySem.W.Frag} {n : Str} {v : V} {u : Value} (a : PySem.W.nsIn K mainGlobals n = some (some u)) (b : RelV v u) : ∃ u, PySem.W.nsIn K mainGlobals n = some (some u) ∧ RelV v u := ⟨u, a, b⟩
theorem all_mk {l : PySem.W.OpenLaw} {w : World} {K : PySem.W.Frag} {h : Heap} {mg : Str → Option Value} {fa C CH CI CB : Addr} (X : K.In h) (G : h.Ns mainGlobals mg) (hfa : mg "law" = some (.ref fa))
    (aC : PySem.W.nsIn K mainGlobals "Catalog" = some (some (.ref C))) (aH : PySem.W.nsIn K mainGlobals "Holding" = some (some (.ref CH))) (aI : PySem.W.nsIn K mainGlobals "InvalidCatalog" = some (some (.ref CI))) (aB : PySem.W.nsIn K mainGlobals "BoundError" = some (some (.ref CB))) (pg : PySem.W.plainGet K C Str.empty = true) (hd : PySem.W.hasDictIn K C = true) (po : PySem.W.plainOver K C = true) (sa : PySem.W.findIn K (.ref C) "__setattr__" = some (some (.builtin "object.__setattr__"))) (mk : PySem.W.makesIn K C = true) (kc : PySem.W.keepIn K (.ref C) = true) (pgH : PySem.W.plainGet K CH Str.empty = true) (hdH : PySem.W.hasDictIn K CH = true) (poH : PySem.W.plainOver K CH = true) (saH : PySem.W.findIn K (.ref CH) "__setattr__" = some (some (.builtin "object.__setattr__"))) (mkH : PySem.W.makesIn K CH = true) (kcH : PySem.W.keepIn K (.ref CH) = true) (n0 : PySem.W.findIn K (.ref C) "_types" = some none) (n1 : PySem.W.findIn K (.ref C) "_casts" = some none) (n2 : PySem.W.findIn K (.ref C) "_casting" = some none) (n3 : PySem.W.findIn K (.ref C) "_holding" = some none) (m0 : PySem.W.findIn K (.ref CH) "following" = some none) (m1 : PySem.W.findIn K (.ref CH) "things" = some none) (m2 : PySem.W.findIn K (.ref CH) "facts" = some none) (m3 : PySem.W.findIn K (.ref CH) "rights" = some none) (m4 : PySem.W.findIn K (.ref CH) "rules" = some none) (m5 : PySem.W.findIn K (.ref CH) "places" = some none) (m6 : PySem.W.findIn K (.ref CH) "functions" = some none) (m7 : PySem.W.findIn K (.ref CH) "columns" = some none) (xI : PySem.W.excIn K CI vErr "ValueError.__new__" = true) (kI : PySem.W.keepIn K (.ref CI) = true) (bI : PySem.W.subIn K (.ref CI) (.type "BaseException") = some true) (tI : PySem.W.typeIn K (.ref CI) = some (.type "type")) (eg : PySem.W.findIn K (.ref CI) "__getattribute__" = some (some (.builtin "BaseException.__getattribute__"))) (ek : PySem.W.findIn K (.ref CI) "__getattr__" = some none) (ed : PySem.W.hasDictIn K CI = true) (ea : PySem.W.findIn K (.ref CI) "__class__" = some (some (.builtin "object.__class__"))) (en : PySem.W.specialIn K (.builtin "object.__class__") "__get__" = some (some (.builtin "getset_descriptor.__get__"))) (et : PySem.W.takesIn K (.builtin "object.__class__") = some true) (em : PySem.W.mroIn K CI (.type "object") = some true) (bB : PySem.W.subIn K (.ref CB) (.type "BaseException") = some true) (dB : PySem.W.hasDictIn K CB = true) (tB : PySem.W.typeIn K (.ref CB) = some (.type "type")) (iB : PySem.W.subIn K (.ref CI) (.ref CB) = some true) (iV : PySem.W.subIn K (.ref CI) (.type "ValueError") = some true) (cc : PySem.W.findIn K (.ref C) "__class__" = some (some (.builtin "object.__class__"))) (cm : PySem.W.mroIn K C (.type "object") = some true) (tC : PySem.W.typeIn K (.ref C) = some (.type "type")) (ks : PySem.W.subIn K (.type "tuple") (.ref C) = some false) (ne : PySem.W.findIn K (.ref C) "__ne__" = some (some (.builtin "object.__ne__")))
    (w_tupOf : ∃ f fd, Wr K "is_tuple_of" sTupOf f fd) (w_pair : ∃ f fd, Wr K "is_pair" sPair f fd) (w_diff : ∃ f fd, Wr K "are_different" sDiff f fd) (w_name : ∃ f fd, Wr K "is_name" sName f fd) (w_types : ∃ f fd, Wr K "are_types" sTypes f fd) (w_casts : ∃ f fd, Wr K "are_casts" sCasts f fd) (w_cast : ∃ f fd, Wr K "is_cast" sCast f fd) (w_pen : ∃ f fd, Wr K "_law_pen" sPen f fd) (w_next : ∃ f fd, Wr K "_law_next" sNext f fd) (w_draw : ∃ f fd, Wr K "_law_draw" sDraw f fd) (w_some : ∃ f fd, Wr K "_law_some" sSome f fd) (w_nym : ∃ f fd, Wr K "_law_is_nym" sNym f fd) (w_fits : ∃ f fd, Wr K "_law_fits" sFits f fd) (w_bent : ∃ f fd, Wr K "_law_bent" sBent f fd) (w_right : ∃ f fd, Wr K "_law_right" sRight f fd) (w_law : ∃ f fd, Wr K "law" sLaw f fd)
    (w_hInit : ∃ f fd, Wm K CH "__init__" "Holding.__init__" sHInit f fd) (w_eq : ∃ f fd, Wm K C "__eq__" "Catalog.__eq__" sEq f fd)
    (w_pTys : ∃ p f fd, Wp K C "types" "Catalog.types" sTysG p f fd) (w_pCas : ∃ p f fd, Wp K C "casts" "Catalog.casts" sCasG p f fd) (w_pNum : ∃ p f fd, Wp K C "next_number" "Catalog.next_number" sNextN p f fd) (w_pAll : ∃ p f fd, Wp K C "all_numbers" "Catalog.all_numbers" sAllN p f fd)
    (w_cInit : ∃ em f fd, Wd K C "__init__" "Catalog.__init__" sCInit em f fd)
    (z_len : PySem.W.nsIn K mainGlobals "len" = some none) (z_isinstance : PySem.W.nsIn K mainGlobals "isinstance" = some none) (z_str : PySem.W.nsIn K mainGlobals "str" = some none) (z_tuple : PySem.W.nsIn K mainGlobals "tuple" = some none) (z_list : PySem.W.nsIn K mainGlobals "list" = some none) (z_all : PySem.W.nsIn K mainGlobals "all" = some none) (z_set : PySem.W.nsIn K mainGlobals "set" = some none) (z_sorted : PySem.W.nsIn K mainGlobals "sorted" = some none) (z_repr : PySem.W.nsIn K mainGlobals "repr" = some none) (z_range : PySem.W.nsIn K mainGlobals "range" = some none) (z_min : PySem.W.nsIn K mainGlobals "min" = some none) (z_int : PySem.W.nsIn K mainGlobals "int" = some none) (z_ValueError : PySem.W.nsIn K mainGlobals "ValueError" = some none)
    (k_most : ∃ u, PySem.W.nsIn K mainGlobals "MOST_LETTERS" = some (some u) ∧ RelV (.int 8) u) (k_mTypes : ∃ u, PySem.W.nsIn K mainGlobals "MOST_TYPES" = some (some u) ∧ RelV (.int 4) u) (k_resv : ∃ a, PySem.W.nsIn K mainGlobals "RESERVED" = some (some (.ref a)) ∧ KSt w K a resv) :
    ∃ fd : FuncData, (∀ (s : Shared) (v : Value), BindsTo s fd ⟨[v], []⟩ [("_law_script", v)]) ∧ ∀ base : Heap, K.In base → base.Ns mainGlobals mg → FnG l.prog w K mg base 10 fa fd ["_law_script"] (spLaw K) := by
  obtain ⟨f_tupOf, d_tupOf, W_tupOf⟩ := w_tupOf
  obtain ⟨f_pair, d_pair, W_pair⟩ := w_pair
  obtain ⟨f_diff, d_diff, W_diff⟩ := w_diff
  obtain ⟨f_name, d_name, W_name⟩ := w_name
  obtain ⟨f_types, d_types, W_types⟩ := w_types
  obtain ⟨f_casts, d_casts, W_casts⟩ := w_casts
  obtain ⟨f_cast, d_cast, W_cast⟩ := w_cast
  obtain ⟨f_pen, d_pen, W_pen⟩ := w_pen
  obtain ⟨f_next, d_next, W_next⟩ := w_next
  obtain ⟨f_draw, d_draw, W_draw⟩ := w_draw
  obtain ⟨f_some, d_some, W_some⟩ := w_some
  obtain ⟨f_nym, d_nym, W_nym⟩ := w_nym
  obtain ⟨f_fits, d_fits, W_fits⟩ := w_fits
  obtain ⟨f_bent, d_bent, W_bent⟩ := w_bent
  obtain ⟨f_right, d_right, W_right⟩ := w_right
  obtain ⟨f_law, d_law, W_law⟩ := w_law
  obtain ⟨f_hInit, d_hInit, W_hInit⟩ := w_hInit
  obtain ⟨f_eq, d_eq, W_eq⟩ := w_eq
  obtain ⟨p_pTys, f_pTys, d_pTys, W_pTys⟩ := w_pTys
  obtain ⟨p_pCas, f_pCas, d_pCas, W_pCas⟩ := w_pCas
  obtain ⟨p_pNum, f_pNum, d_pNum, W_pNum⟩ := w_pNum
  obtain ⟨p_pAll, f_pAll, d_pAll, W_pAll⟩ := w_pAll
  obtain ⟨e_cI, f_cInit, d_cInit, W_cInit⟩ := w_cInit
  have e := hfa.symm.trans (W_law.mg X G)
  cases e
  obtain ⟨u_most, c_most, t_most, e_most⟩ := k_most
  rw [e_most] at c_most
  obtain ⟨u_mTypes, c_mTypes, t_mTypes, e_mTypes⟩ := k_mTypes
  rw [e_mTypes] at c_mTypes
  obtain ⟨a4, c4, hR⟩ := k_resv
  have Gl : Bl mg := { list := PySem.W.mg_none_of X G z_list, len := PySem.W.mg_none_of X G z_len, int := PySem.W.mg_none_of X G z_int }
  have Gf : Bf w K mg := { len := PySem.W.mg_none_of X G z_len, isi := PySem.W.mg_none_of X G z_isinstance, str := PySem.W.mg_none_of X G z_str, tuple := PySem.W.mg_none_of X G z_tuple, list := PySem.W.mg_none_of X G z_list, all := PySem.W.mg_none_of X G z_all, set := PySem.W.mg_none_of X G z_set, sorted := PySem.W.mg_none_of X G z_sorted, most := ⟨t_most, PySem.W.mg_of X G c_most⟩, mTypes := ⟨t_mTypes, PySem.W.mg_of X G c_mTypes⟩, resv := ⟨a4, PySem.W.mg_of X G c4, hR⟩ }
  have Gn : Bn mg := { list := PySem.W.mg_none_of X G z_list, len := PySem.W.mg_none_of X G z_len, range := PySem.W.mg_none_of X G z_range, min := PySem.W.mg_none_of X G z_min, sorted := PySem.W.mg_none_of X G z_sorted, tuple := PySem.W.mg_none_of X G z_tuple }
  have Ge : Be K mg CB CI := { gB := PySem.W.mg_of X G aB, gI := PySem.W.mg_of X G aI, gV := PySem.W.mg_none_of X G z_ValueError, xI := ⟨eg, ek, bI, ed, ea, en, et, em⟩, me := PySem.W.exm_ref bB dB tB iB, kv := kit_val iV }
  have nC : ∀ n ∈ cNames, NoAttr K C n := fun n m => by
    simp only [cNames, List.mem_cons, List.not_mem_nil, or_false] at m
    rcases m with rfl | rfl | rfl | rfl
    · exact n0
    · exact n1
    · exact n2
    · exact n3
  have nH : ∀ n ∈ (("following" : Str) :: hNames), NoAttr K CH n := fun n m => by
    simp only [hNames, List.mem_cons, List.not_mem_nil, or_false] at m
    rcases m with rfl | rfl | rfl | rfl | rfl | rfl | rfl | rfl
    · exact m0
    · exact m1
    · exact m2
    · exact m3
    · exact m4
    · exact m5
    · exact m6
    · exact m7
  have cl : Cls K C := ⟨pg, hd, po, sa⟩
  have clH : Cls K CH := ⟨pgH, hdH, poH, saH⟩
  have Gc : Bc K mg C CI := { cl := cl, no := nC, inv := ⟨PySem.W.mg_of X G aI, xI, kI, bI, tI⟩ }
  have Gh : Bh K CH := { cl := clH, no := nH }
  have I : Bi K mg C := { cl := cl, no := nC, g := PySem.W.mg_of X G aC, ha := cc, hn := en, ht := et, hm := cm, kt := kit_tupC (cls_some hd) tC ks }
  have b_tupOf := W_tupOf.fn.binds (ps := ["thing", "least", "most", "is_part"]) fun _ _ _ _ _ _ us hl => match us, hl with | [_, _, _, _], _ => rfl
  have b_pair := W_pair.fn.binds (ps := ["thing"]) fun _ _ _ _ _ _ us hl => match us, hl with | [_], _ => rfl
  have b_diff := W_diff.fn.binds (ps := ["things"]) fun _ _ _ _ _ _ us hl => match us, hl with | [_], _ => rfl
  have b_name := W_name.fn.binds (ps := ["thing"]) fun _ _ _ _ _ _ us hl => match us, hl with | [_], _ => rfl
  have b_types := W_types.fn.binds (ps := ["thing"]) fun _ _ _ _ _ _ us hl => match us, hl with | [_], _ => rfl
  have b_casts := W_casts.fn.binds (ps := ["thing", "types"]) fun _ _ _ _ _ _ us hl => match us, hl with | [_, _], _ => rfl
  have b_cast := W_cast.fn.binds (ps := ["thing", "types"]) fun _ _ _ _ _ _ us hl => match us, hl with | [_, _], _ => rfl
  have b_pen := W_pen.fn.binds (ps := ["_law_script"]) fun _ _ _ _ _ _ us hl => match us, hl with | [_], _ => rfl
  have b_next := W_next.fn.binds (ps := ["_law_pen_here"]) fun _ _ _ _ _ _ us hl => match us, hl with | [_], _ => rfl
  have b_draw := W_draw.fn.binds (ps := ["_law_pen_here", "_law_under"]) fun _ _ _ _ _ _ us hl => match us, hl with | [_, _], _ => rfl
  have b_some := W_some.fn.binds (ps := ["_law_pen_here", "_law_pool", "_law_most"]) fun _ _ _ _ _ _ us hl => match us, hl with | [_, _, _], _ => rfl
  have b_nym := W_nym.fn.binds (ps := ["_law_thing_here"]) fun _ _ _ _ _ _ us hl => match us, hl with | [_], _ => rfl
  have b_fits := W_fits.fn.binds (ps := ["_law_sorts", "_law_steps_here"]) fun _ _ _ _ _ _ us hl => match us, hl with | [_, _], _ => rfl
  have b_bent := W_bent.fn.binds (ps := ["_law_pen_here", "_law_thing_here"]) fun _ _ _ _ _ _ us hl => match us, hl with | [_, _], _ => rfl
  have b_right := W_right.fn.binds (ps := ["_law_sorts", "_law_steps_here"]) fun _ _ _ _ _ _ us hl => match us, hl with | [_, _], _ => rfl
  have b_law := W_law.fn.binds (ps := ["_law_script"]) fun _ _ _ _ _ _ us hl => match us, hl with | [_], _ => rfl
  have b_hInit := W_hInit.fn.binds (ps := ["self"]) fun _ _ _ _ _ _ us hl => match us, hl with | [_], _ => rfl
  have b_eq := W_eq.fn.binds (ps := ["self", "other"]) fun _ _ _ _ _ _ us hl => match us, hl with | [_, _], _ => rfl
  have b_pTys := W_pTys.fn.binds (ps := ["self"]) fun _ _ _ _ _ _ us hl => match us, hl with | [_], _ => rfl
  have b_pCas := W_pCas.fn.binds (ps := ["self"]) fun _ _ _ _ _ _ us hl => match us, hl with | [_], _ => rfl
  have b_pNum := W_pNum.fn.binds (ps := ["self"]) fun _ _ _ _ _ _ us hl => match us, hl with | [_], _ => rfl
  have b_pAll := W_pAll.fn.binds (ps := ["self"]) fun _ _ _ _ _ _ us hl => match us, hl with | [_], _ => rfl
  obtain ⟨ds3, v3, b3⟩ := FunD.binds1 (ps := ["self", "types", "casts"]) W_cInit.fn 3 1 (List.cons_ne_nil _ _) rfl fun _ _ _ _ _ _ _ us its h1 h2 => match us, its, h1, h2 with | [_, _, _], [_], _, _ => ⟨_, rfl, rfl⟩
  obtain ⟨ds2, v2, b2⟩ := FunD.binds1 (ps := ["self", "types", "casts"]) W_cInit.fn 2 0 (List.cons_ne_nil _ _) rfl fun _ _ _ _ _ _ _ us its h1 h2 => match us, its, h1, h2 with | [_, _], [_], _, _ => ⟨_, rfl, rfl⟩
  cases v3
  obtain ⟨oc, od, kV, doc, pm, an, cdv, ct, osl, ed2, _, _⟩ := W_law.fn.ex
  refine ⟨d_law, fun s v => by rw [ed2]; exact .of_eq rfl, fun base _ _ => ?_⟩
  have c_next : CalN l.prog w K mg base 1 "_law_next" spNext := ⟨f_next, d_next, _, ok_next W_next.fn Gl, W_next.mg X G, W_next.fn.kp, b_next⟩
  have c_draw : CalN l.prog w K mg base 2 "_law_draw" spDraw := ⟨f_draw, d_draw, _, ok_draw W_draw.fn Gl c_next, W_draw.mg X G, W_draw.fn.kp, b_draw⟩
  have c_pen : CalN l.prog w K mg base 1 "_law_pen" (spPen K) := ⟨f_pen, d_pen, _, ok_pen W_pen.fn Gl, W_pen.mg X G, W_pen.fn.kp, b_pen⟩
  have c_some : CalN l.prog w K mg base 3 "_law_some" (spGen PreSome PhiSome 100) := ⟨f_some, d_some, _, ok_some W_some.fn Gn c_draw, W_some.mg X G, W_some.fn.kp, b_some⟩
  have c_tupOf : CalN l.prog w K mg base 3 "is_tuple_of" (spTO l.prog w K mg base 2) := ⟨f_tupOf, d_tupOf, _, ok_tupOf W_tupOf.fn Gf, W_tupOf.mg X G, W_tupOf.fn.kp, b_tupOf⟩
  have c_name : CalN l.prog w K mg base 2 "is_name" (spB namD) := ⟨f_name, d_name, _, ok_name W_name.fn Gf, W_name.mg X G, W_name.fn.kp, b_name⟩
  have c_pair : CalN l.prog w K mg base 1 "is_pair" (spB fun d => tupN d 2) := ⟨f_pair, d_pair, _, ok_pair W_pair.fn Gf, W_pair.mg X G, W_pair.fn.kp, b_pair⟩
  have c_diff : CalN l.prog w K mg base 1 "are_different" (spDiff K) := ⟨f_diff, d_diff, _, (ok_diff2 W_diff.fn Gf).imp (fun vs H Q E h => .inl h), W_diff.mg X G, W_diff.fn.kp, b_diff⟩
  have c_diffK : CalN l.prog w K mg base 1 "are_different" (spDiffK K) := ⟨f_diff, d_diff, _, (ok_diff2 W_diff.fn Gf).imp (fun vs H Q E h => .inr h), W_diff.mg X G, W_diff.fn.kp, b_diff⟩
  have c_types : CalN l.prog w K mg base 4 "are_types" (spB typB) := ⟨f_types, d_types, _, ok_types W_types.fn Gf c_name c_tupOf c_diff, W_types.mg X G, W_types.fn.kp, b_types⟩
  have c_cast : CalN l.prog w K mg base 2 "is_cast" (spR RCast) := ⟨f_cast, d_cast, _, ok_cast W_cast.fn Gf c_pair, W_cast.mg X G, W_cast.fn.kp, b_cast⟩
  have c_casts : CalN l.prog w K mg base 3 "are_casts" (spR RCasts) := ⟨f_casts, d_casts, _, ok_casts W_casts.fn Gf c_cast c_diffK, W_casts.mg X G, W_casts.fn.kp, b_casts⟩
  have c_casts0 : CalN l.prog w K mg base 3 "are_casts" (spCasts0 K) := ⟨f_casts, d_casts, _, ok_casts0 W_casts.fn Gf c_diffK, W_casts.mg X G, W_casts.fn.kp, b_casts⟩
  have c_hInit : MakN l.prog w K mg base CX0 1 "Holding" CH (spHold CH) := ⟨f_hInit, d_hInit, _, ok_hinit W_hInit.fn Gh, ⟨mkH, W_hInit.at_, W_hInit.isF, kcH⟩, PySem.W.mg_of X G aH, b_hInit⟩
  have c_nym : CalN l.prog w K mg base 1 "_law_is_nym" (spB namD) := ⟨f_nym, d_nym, _, ok_nym W_nym.fn Gf, W_nym.mg X G, W_nym.fn.kp, b_nym⟩
  have c_fits : CalN l.prog w K mg base 2 "_law_fits" (spR RFits) := ⟨f_fits, d_fits, _, ok_fits W_fits.fn Gf c_nym, W_fits.mg X G, W_fits.fn.kp, b_fits⟩
  have c_bent : CalN l.prog w K mg base 3 "_law_bent" spBent := ⟨f_bent, d_bent, _, ok_bent W_bent.fn Gf c_draw, W_bent.mg X G, W_bent.fn.kp, b_bent⟩
  have c_cat : MakN l.prog w K mg base (L2.CX l.prog w) 5 "Catalog" C (spCat C CH CI) := ⟨f_cInit, d_cInit, _, ok_cinit W_cInit.fn Gf Gc c_types c_casts c_hInit, ⟨mk, W_cInit.at_, W_cInit.isF, kc⟩, PySem.W.mg_of X G aC, b3⟩
  have c_cat0 : MakD l.prog w K mg base (L2.CX l.prog w) 5 "Catalog" C [.ref e_cI] (spCat0 K C CH) := ⟨f_cInit, d_cInit, _, ds2, ok_cinit0 W_cInit.fn Gf Gc c_types c_casts0 c_hInit, ⟨mk, W_cInit.at_, W_cInit.isF, kc⟩, PySem.W.mg_of X G aC, b2, v2⟩
  have c_pTys : PrpN l.prog w K mg base 1 C "types" (spTys C CH) := ⟨p_pTys, f_pTys, d_pTys, _, W_pTys.pr, ok_tysG W_pTys.fn I, b_pTys⟩
  have c_pCas : PrpN l.prog w K mg base 1 C "casts" (spCas C CH) := ⟨p_pCas, f_pCas, d_pCas, _, W_pCas.pr, ok_casG W_pCas.fn I, b_pCas⟩
  have c_pNum : PrpN l.prog w K mg base 1 C "next_number" (spNum C CH) := ⟨p_pNum, f_pNum, d_pNum, _, W_pNum.pr, ok_nextN W_pNum.fn I Gh, b_pNum⟩
  have c_pAll : PrpN l.prog w K mg base 1 C "all_numbers" (spAll C CH) := ⟨p_pAll, f_pAll, d_pAll, _, W_pAll.pr, ok_allN W_pAll.fn I Gh Gf, b_pAll⟩
  have c_eq : EqN l.prog w K mg base 1 C (spEq C CH) := ⟨⟨f_eq, d_eq, _, ok_eq W_eq.fn I Gh Gf, W_eq.at_, W_eq.isF, b_eq⟩, ne, cm⟩
  have c_right : CalG l.prog w K mg base 8 "_law_right" spRight := ⟨f_right, d_right, _, ok_right W_right.fn Gf (PySem.W.mg_none_of X G z_repr) I Ge c_cat c_fits c_pNum c_pAll c_pTys c_pCas, W_right.mg X G, W_right.fn.kp, b_right⟩
  exact ok_law W_law.fn Gf Gn I W_cInit.ke c_pen c_draw c_some c_bent c_right c_cat c_cat0 c_pCas c_eq ks
end K02

open PySem PySem.W PyProof.Rows
set_option maxRecDepth 100000 in
set_option maxHeartbeats 0 in
theorem PySem.Challenge.cw_boundonce_k02_catalogs_made_holds : PySem.Challenge.rw_boundonce_k02_catalogs_made.Holds := by
  w_on; o_law; k_head; (case hw => w_witness2)
  k_fill
  refine My.walk_G (l := PySem.Challenge.rw_boundonce_k02_catalogs_made) (n := 63) (k := 10) (x := "_law_script") (sp := fun w => K02.spLaw _) rfl (by decide) rfl ⟨rfl, by decide, by decide⟩ (fun w h Y => PySem.W.kIn_of Y) ?F (fun w H a ns hl _ hS => ⟨a, ns, rfl, hS, hl, fun _ => rfl⟩)
  case F =>
    intro w mg fa h KX G hmg
    refine' K02.all_mk KX G hmg ?aC ?aH ?aI ?aB ?pg ?hd ?po ?sa ?mk ?kc ?pgH ?hdH ?poH ?saH ?mkH ?kcH ?n0 ?n1 ?n2 ?n3 ?m0 ?m1 ?m2 ?m3 ?m4 ?m5 ?m6 ?m7 ?xI ?kI ?bI ?tI ?eg ?ek ?ed ?ea ?en ?et ?em ?bB ?dB ?tB ?iB ?iV ?cc ?cm ?tC ?ks ?ne ?w_tupOf ?w_pair ?w_diff ?w_name ?w_types ?w_casts ?w_cast ?w_pen ?w_next ?w_draw ?w_some ?w_nym ?w_fits ?w_bent ?w_right ?w_law ?w_hInit ?w_eq ?w_pTys ?w_pCas ?w_pNum ?w_pAll ?w_cInit ?z_len ?z_isinstance ?z_str ?z_tuple ?z_list ?z_all ?z_set ?z_sorted ?z_repr ?z_range ?z_min ?z_int ?z_ValueError ?k_most ?k_mTypes ?k_resv
    (case aC => k_is)
    (case aH => k_is)
    (case aI => k_is)
    (case aB => k_is)
    (case pg => k_is)
    (case hd => k_is)
    (case po => k_is)
    (case sa => k_is)
    (case mk => k_is)
    (case kc => k_is)
    (case pgH => k_is)
    (case hdH => k_is)
    (case poH => k_is)
    (case saH => k_is)
    (case mkH => k_is)
    (case kcH => k_is)
    (case n0 => k_is)
    (case n1 => k_is)
    (case n2 => k_is)
    (case n3 => k_is)
    (case m0 => k_is)
    (case m1 => k_is)
    (case m2 => k_is)
    (case m3 => k_is)
    (case m4 => k_is)
    (case m5 => k_is)
    (case m6 => k_is)
    (case m7 => k_is)
    (case xI => k_exc)
    (case kI => k_is)
    (case bI => k_is)
    (case tI => k_is)
    (case eg => k_is)
    (case ek => k_is)
    (case ed => k_is)
    (case ea => k_is)
    (case en => k_is)
    (case et => k_is)
    (case em => k_is)
    (case bB => k_is)
    (case dB => k_is)
    (case tB => k_is)
    (case iB => k_is)
    (case iV => k_is)
    (case cc => k_is)
    (case cm => k_is)
    (case tC => k_is)
    (case ks => k_is)
    (case ne => k_is)
    (case w_tupOf => refine' K02.wr_mk ?a ?l ?c ?k; (case a => k_is); (case l => k_is); (case c => k_is); (case k => k_is))
    (case w_pair => refine' K02.wr_mk ?a ?l ?c ?k; (case a => k_is); (case l => k_is); (case c => k_is); (case k => k_is))
    (case w_diff => refine' K02.wr_mk ?a ?l ?c ?k; (case a => k_is); (case l => k_is); (case c => k_is); (case k => k_is))
    (case w_name => refine' K02.wr_mk ?a ?l ?c ?k; (case a => k_is); (case l => k_is); (case c => k_is); (case k => k_is))
    (case w_types => refine' K02.wr_mk ?a ?l ?c ?k; (case a => k_is); (case l => k_is); (case c => k_is); (case k => k_is))
    (case w_casts => refine' K02.wr_mk ?a ?l ?c ?k; (case a => k_is); (case l => k_is); (case c => k_is); (case k => k_is))
    (case w_cast => refine' K02.wr_mk ?a ?l ?c ?k; (case a => k_is); (case l => k_is); (case c => k_is); (case k => k_is))
    (case w_pen => refine' K02.wr_mk ?a ?l ?c ?k; (case a => k_is); (case l => k_is); (case c => k_is); (case k => k_is))
    (case w_next => refine' K02.wr_mk ?a ?l ?c ?k; (case a => k_is); (case l => k_is); (case c => k_is); (case k => k_is))
    (case w_draw => refine' K02.wr_mk ?a ?l ?c ?k; (case a => k_is); (case l => k_is); (case c => k_is); (case k => k_is))
    (case w_some => refine' K02.wr_mk ?a ?l ?c ?k; (case a => k_is); (case l => k_is); (case c => k_is); (case k => k_is))
    (case w_nym => refine' K02.wr_mk ?a ?l ?c ?k; (case a => k_is); (case l => k_is); (case c => k_is); (case k => k_is))
    (case w_fits => refine' K02.wr_mk ?a ?l ?c ?k; (case a => k_is); (case l => k_is); (case c => k_is); (case k => k_is))
    (case w_bent => refine' K02.wr_mk ?a ?l ?c ?k; (case a => k_is); (case l => k_is); (case c => k_is); (case k => k_is))
    (case w_right => refine' K02.wr_mk ?a ?l ?c ?k; (case a => k_is); (case l => k_is); (case c => k_is); (case k => k_is))
    (case w_law => refine' K02.wr_mk ?a ?l ?c ?k; (case a => k_is); (case l => k_is); (case c => k_is); (case k => k_is))
    (case w_hInit => refine' K02.wm_mk ?a ?i ?l ?c ?k; (case a => k_is); (case i => k_is); (case l => k_is); (case c => k_is); (case k => k_is))
    (case w_eq => refine' K02.wm_mk ?a ?i ?l ?c ?k; (case a => k_is); (case i => k_is); (case l => k_is); (case c => k_is); (case k => k_is))
    (case w_pTys => refine' K02.wp_mk ?a ?g ?t ?r ?l ?c ?k; (case a => k_is); (case g => k_is); (case t => k_is); (case r => k_is); (case l => k_is); (case c => k_is); (case k => k_is))
    (case w_pCas => refine' K02.wp_mk ?a ?g ?t ?r ?l ?c ?k; (case a => k_is); (case g => k_is); (case t => k_is); (case r => k_is); (case l => k_is); (case c => k_is); (case k => k_is))
    (case w_pNum => refine' K02.wp_mk ?a ?g ?t ?r ?l ?c ?k; (case a => k_is); (case g => k_is); (case t => k_is); (case r => k_is); (case l => k_is); (case c => k_is); (case k => k_is))
    (case w_pAll => refine' K02.wp_mk ?a ?g ?t ?r ?l ?c ?k; (case a => k_is); (case g => k_is); (case t => k_is); (case r => k_is); (case l => k_is); (case c => k_is); (case k => k_is))
    (case w_cInit => refine' K02.wd_mk ?a ?i ?l ?c ?k ?t ?u ?e ?v ?w; (case a => k_is); (case i => k_is); (case l => k_is); (case c => k_is); (case k => k_is); (case t => k_is); (case u => rfl); (case e => k_is); (case v => rfl); (case w => rfl))
    (case z_len => k_is)
    (case z_isinstance => k_is)
    (case z_str => k_is)
    (case z_tuple => k_is)
    (case z_list => k_is)
    (case z_all => k_is)
    (case z_set => k_is)
    (case z_sorted => k_is)
    (case z_repr => k_is)
    (case z_range => k_is)
    (case z_min => k_is)
    (case z_int => k_is)
    (case z_ValueError => k_is)
    (case k_most => refine' K02.cst_mk ?a ?b; (case a => k_is); (case b => exact ⟨_, rfl⟩))
    (case k_mTypes => refine' K02.cst_mk ?a ?b; (case a => k_is); (case b => exact ⟨_, rfl⟩))
    (case k_resv => refine' My.dic_mk ?a ?l ?t ?d ?o ?k ?w ?z; (case a => k_is); (case l => k_is); (case t => rfl); (case d => rfl); (case o => rfl); (case k => (repeat (refine ⟨⟨_, _, rfl, rfl⟩, ?_⟩)); exact trivial); (case w => decide); (case z => rfl))
