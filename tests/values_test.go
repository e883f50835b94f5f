package tests

import (
	"math"
	"math/big"
	"strings"
	"testing"

	"loop.example/g00267/impl"
)

var (
	blankValue = impl.Value{}
	no         = impl.Value{Kind: impl.VlBool}
	yes        = impl.Value{Kind: impl.VlBool, N: 1}
	errDiv     = failed(impl.ErDiv)
	errType    = failed(impl.ErType)
	errRef     = failed(impl.ErRef)
	errOver    = failed(impl.ErOver)
	errCycle   = failed(impl.ErCycle)
)

func num(n int64) impl.Value    { return impl.Value{Kind: impl.VlInt, N: n} }
func text(s string) impl.Value  { return impl.Value{Kind: impl.VlText, S: s} }
func failed(n int64) impl.Value { return impl.Value{Kind: impl.VlError, N: n} }

func someNumbers() []int64 {
	return []int64{
		0, 1, -1, 2, -2, 3, 7, -7, 10, 99, 12345, -98765, 1000000, 31622776, 31622777, -31622777, 33554432,
		999999999999999, -999999999999999, impl.MaxInt, -impl.MaxInt, impl.MaxInt / 2, impl.MaxInt/2 + 1, -impl.MaxInt / 3,
	}
}

func someTexts() []string {
	return []string{
		"", " ", "~", "'", "''", "a", "A", "ab", "b", "1", "01", "-5", "TRUE", "FALSE", "#DIV!", "=A1", "a\"b", "A1",
		strings.Repeat("x", impl.MaxText-1), strings.Repeat("x", impl.MaxText), strings.Repeat("~", impl.MaxText),
	}
}

func rightValues() []impl.Value {
	l := []impl.Value{blankValue, no, yes, errDiv, errType, errRef, errOver, errCycle}
	for _, n := range someNumbers() {
		l = append(l, num(n))
	}
	for _, s := range someTexts() {
		l = append(l, text(s))
	}
	return l
}

func wrongValues() []impl.Value {
	return []impl.Value{
		{Kind: impl.VlBlank, N: 1}, {Kind: impl.VlBlank, N: -1}, {Kind: impl.VlBlank, S: "a"}, {Kind: impl.VlBlank, N: 1, S: "a"},
		num(impl.MaxInt + 1), num(-impl.MaxInt - 1), num(math.MaxInt64), num(math.MinInt64), {Kind: impl.VlInt, N: 1, S: "1"}, {Kind: impl.VlInt, S: " "},
		text("\x1f"), text("\x7f"), text("\x00"), text("a\nb"), text("caf\xe9"), text("é"), text("a" + strings.Repeat(" ", 198) + "\x7f"),
		text(strings.Repeat("x", impl.MaxText+1)), text(strings.Repeat("x", 100000)), {Kind: impl.VlText, N: 1}, {Kind: impl.VlText, N: -1, S: "a"},
		{Kind: impl.VlBool, N: 2}, {Kind: impl.VlBool, N: -1}, {Kind: impl.VlBool, S: "TRUE"}, {Kind: impl.VlBool, N: 1, S: "TRUE"},
		failed(0), failed(6), failed(-1), failed(math.MaxInt64), {Kind: impl.VlError, N: 1, S: "#DIV!"},
		{Kind: 5}, {Kind: 5, N: 1}, {Kind: -1}, {Kind: math.MaxInt64}, {Kind: math.MinInt64, N: 1, S: "x"},
	}
}

func allValues() []impl.Value { return append(rightValues(), wrongValues()...) }

// errorAs answers the error that stands for v where it is none of the Kinds that count, else a blank.
func errorAs(v impl.Value, counts ...int64) impl.Value {
	if !impl.ValueOk(v) {
		return errType
	}
	if v.Kind == impl.VlError {
		return v
	}
	for _, k := range counts {
		if v.Kind == k {
			return blankValue
		}
	}
	return errType
}

// firstError: of two the first that is none counts.
func firstError(a impl.Value, b impl.Value, counts ...int64) impl.Value {
	if e := errorAs(a, counts...); e != blankValue {
		return e
	}
	return errorAs(b, counts...)
}

func TestP2RightValues(t *testing.T) {
	for _, v := range rightValues() {
		if !impl.ValueOk(v) {
			t.Errorf("%v counts as wrong", v)
		}
	}
	for _, v := range wrongValues() {
		if impl.ValueOk(v) || impl.ValueText(v) != "" {
			t.Errorf("%v counts as right, with the text %q", v, impl.ValueText(v))
		}
	}
	for b := range 256 {
		v := text(string([]byte{'a', byte(b)}))
		if got := impl.ValueOk(v); got != (b >= 32 && b <= 126) {
			t.Errorf("a text with the byte %d: %v", b, got)
		}
	}
}

func TestP2RightValuesComeBackFromTheirTexts(t *testing.T) {
	texts := map[string]impl.Value{}
	for _, v := range rightValues() {
		s := impl.ValueText(v)
		if other, ok := texts[s]; ok && other != v {
			t.Errorf("%v and %v have one text %q", other, v, s)
		}
		texts[s] = v
		if got, ok := impl.ReadValue(s); !ok || got != v {
			t.Errorf("ReadValue(%q) = %v %v, want %v", s, got, ok, v)
		}
	}
}

func TestP2ValueTexts(t *testing.T) {
	for _, c := range []struct {
		v impl.Value
		s string
	}{
		{blankValue, ""}, {num(0), "0"}, {num(-5), "-5"}, {num(impl.MaxInt), "1000000000000000"}, {num(-impl.MaxInt), "-1000000000000000"},
		{text(""), "'"}, {text("a'b"), "'a'b"}, {text("TRUE"), "'TRUE"}, {no, "FALSE"}, {yes, "TRUE"},
		{errDiv, "#DIV!"}, {errType, "#TYPE!"}, {errRef, "#REF!"}, {errOver, "#OVER!"}, {errCycle, "#CYCLE!"},
	} {
		if got := impl.ValueText(c.v); got != c.s {
			t.Errorf("ValueText(%v) = %q, want %q", c.v, got, c.s)
		}
		if got, ok := impl.ReadValue(c.s); !ok || got != c.v {
			t.Errorf("ReadValue(%q) = %v %v, want %v", c.s, got, ok, c.v)
		}
	}
}

func TestP2WrongValueTexts(t *testing.T) {
	for _, s := range []string{
		" ", "-", "+1", "-0", "00", "01", "-01", "1 ", " 1", "1.0", "1e3", "1_0", "0x1", "--1", "1000000000000001", "-1000000000000001",
		"9223372036854775807", "9223372036854775808", "-9223372036854775808", strings.Repeat("9", 400), strings.Repeat("0", 400),
		"true", "True", "TRUE ", " TRUE", "FALSE1", "TRU", "#", "#X!", "#DIV", "#div!", "#DIV! ", "#DIV/0!", "DIV!", "#CYCLE!!",
		"a", "A1", "=1", "\"a\"", "'\x1f", "'\x7f", "'a\n", "'\x00", "'é", "\x00", "'" + strings.Repeat("x", impl.MaxText+1),
	} {
		if v, ok := impl.ReadValue(s); ok || v != blankValue {
			t.Errorf("ReadValue(%q) = %v %v", s, v, ok)
		}
	}
	eachText("-019'# \x7fT", 5, func(s string) {
		v, ok := impl.ReadValue(s)
		if ok && (!impl.ValueOk(v) || impl.ValueText(v) != s) || !ok && v != blankValue {
			t.Errorf("ReadValue(%q) = %v %v", s, v, ok)
		}
	})
}

func TestP2ValuesHaveAnOrder(t *testing.T) {
	all := allValues()
	for i, a := range all {
		for j, b := range all {
			o := impl.Order(a, b)
			if o < -1 || o > 1 || o != -impl.Order(b, a) || (o == 0) != (a == b) {
				t.Errorf("Order(%v, %v) = %d", a, b, o)
			}
			if i == j && o != 0 {
				t.Errorf("Order of %v and itself is %d", a, o)
			}
			for _, c := range all {
				if o <= 0 && impl.Order(b, c) <= 0 && impl.Order(a, c) > 0 {
					t.Errorf("%v, %v, %v go in a circle", a, b, c)
				}
			}
		}
	}
}

func TestP2OrderIsByKindThenNThenS(t *testing.T) {
	rising := []impl.Value{
		{Kind: -1, N: 9, S: "z"}, {Kind: 0, N: -1, S: "z"}, {}, {S: "a"}, {N: 1}, num(math.MinInt64), num(-5), num(0), {Kind: 1, S: "a"}, num(5),
		text(""), text("A"), text("a"), text("a "), text("aa"), text("ab"), text("b"), text("\x80"), {Kind: 2, N: 1}, no, yes, {Kind: 3, N: 2},
		errDiv, errType, errRef, errOver, errCycle, {Kind: 5}, {Kind: math.MaxInt64},
	}
	for i, a := range rising {
		for j, b := range rising {
			want := int64(0)
			if i < j {
				want = -1
			} else if i > j {
				want = 1
			}
			if got := impl.Order(a, b); got != want {
				t.Errorf("Order(%v, %v) = %d, want %d", a, b, got, want)
			}
		}
	}
}

func bigOrOver(n *big.Int) impl.Value {
	if n.CmpAbs(big.NewInt(impl.MaxInt)) > 0 {
		return errOver
	}
	return num(n.Int64())
}

func bigQuotient(x *big.Int, y *big.Int) impl.Value {
	if y.Sign() == 0 {
		return errDiv
	}
	return bigOrOver(new(big.Int).Quo(x, y))
}

func TestP2Reckoning(t *testing.T) {
	for _, a := range allValues() {
		for _, b := range allValues() {
			sum, less, times, over := impl.Add(a, b), impl.Less(a, b), impl.Times(a, b), impl.Over(a, b)
			want := [4]impl.Value{}
			if e := firstError(a, b, impl.VlBlank, impl.VlInt); e != blankValue {
				want = [4]impl.Value{e, e, e, e}
			} else {
				x, y := big.NewInt(a.N), big.NewInt(b.N)
				want[0] = bigOrOver(new(big.Int).Add(x, y))
				want[1] = bigOrOver(new(big.Int).Sub(x, y))
				want[2] = bigOrOver(new(big.Int).Mul(x, y))
				want[3] = bigQuotient(x, y)
			}
			if got := [4]impl.Value{sum, less, times, over}; got != want {
				t.Errorf("%v and %v: %v, want %v", a, b, got, want)
			}
		}
	}
}

func TestP2ReckoningAtTheEdges(t *testing.T) {
	const most = impl.MaxInt
	for i, c := range []struct{ got, want impl.Value }{
		{impl.Add(num(most-1), num(1)), num(most)}, {impl.Add(num(most), num(1)), errOver}, {impl.Add(num(-most), num(-1)), errOver}, {impl.Add(num(-most), num(1)), num(1 - most)},
		{impl.Less(num(1-most), num(1)), num(-most)}, {impl.Less(num(-most), num(1)), errOver}, {impl.Less(num(most), num(-1)), errOver},
		{impl.Times(num(most), num(1)), num(most)}, {impl.Times(num(most), num(-1)), num(-most)}, {impl.Times(num(most/2), num(2)), num(most)},
		{impl.Times(num(most/2+1), num(-2)), errOver}, {impl.Times(num(most), num(most)), errOver}, {impl.Times(num(most), blankValue), num(0)},
		{impl.Times(num(4294967296), num(4294967296)), errOver}, {impl.Times(num(-72057594037927), num(256)), errOver},
		{impl.Over(num(7), num(2)), num(3)}, {impl.Over(num(-7), num(2)), num(-3)}, {impl.Over(num(7), num(-2)), num(-3)}, {impl.Over(num(-7), num(-2)), num(3)},
		{impl.Over(num(1), num(0)), errDiv}, {impl.Over(num(0), num(0)), errDiv}, {impl.Over(blankValue, blankValue), errDiv}, {impl.Over(blankValue, num(5)), num(0)}, {impl.Over(num(-most), num(-1)), num(most)},
		{impl.Over(text("x"), num(0)), errType}, {impl.Over(num(1), text("0")), errType}, {impl.Over(errRef, num(0)), errRef},
		{impl.Add(blankValue, blankValue), num(0)}, {impl.Less(blankValue, num(3)), num(-3)},
	} {
		if c.got != c.want {
			t.Errorf("line %d: %v, want %v", i, c.got, c.want)
		}
	}
}

func TestP2TheFirstThatIsNoneCounts(t *testing.T) {
	wrong := failed(9)
	for _, f := range []func(impl.Value, impl.Value) impl.Value{impl.Add, impl.Less, impl.Times, impl.Over} {
		for i, c := range []struct{ got, want impl.Value }{
			{f(errDiv, errRef), errDiv}, {f(errRef, errDiv), errRef}, {f(errOver, text("x")), errOver}, {f(text("x"), errOver), errType},
			{f(yes, errCycle), errType}, {f(errCycle, yes), errCycle}, {f(wrong, errRef), errType}, {f(errRef, wrong), errRef},
			{f(num(1), errRef), errRef}, {f(num(1), wrong), errType}, {f(num(impl.MaxInt+1), errRef), errType}, {f(impl.Value{N: 1}, num(1)), errType},
		} {
			if c.got != c.want {
				t.Errorf("line %d: %v, want %v", i, c.got, c.want)
			}
		}
	}
}

func TestP2SumsAndProductsDoNotAskWhichStandsFirst(t *testing.T) {
	for _, a := range allValues() {
		for _, b := range allValues() {
			if s := impl.Add(a, b); s.Kind == impl.VlInt && s != impl.Add(b, a) {
				t.Errorf("the sum of %v and %v is %v", a, b, s)
			}
			if p := impl.Times(a, b); p.Kind == impl.VlInt && p != impl.Times(b, a) {
				t.Errorf("the product of %v and %v is %v", a, b, p)
			}
		}
	}
}

func TestP2WhatIsAddedIsTakenAwayAgain(t *testing.T) {
	for _, x := range someNumbers() {
		for _, b := range append(rightValues(), blankValue) {
			if s := impl.Add(num(x), b); s.Kind == impl.VlInt && impl.Less(s, b) != num(x) {
				t.Errorf("%d and %v: %v", x, b, impl.Less(s, b))
			}
		}
	}
}

func TestP2Negated(t *testing.T) {
	for _, v := range allValues() {
		want := errorAs(v, impl.VlBlank, impl.VlInt)
		if want == blankValue {
			want = num(-v.N)
		}
		if got := impl.Negated(v); got != want {
			t.Errorf("Negated(%v) = %v, want %v", v, got, want)
		}
	}
	if impl.Negated(blankValue) != num(0) || impl.Negated(num(-impl.MaxInt)) != num(impl.MaxInt) || impl.Negated(yes) != errType {
		t.Error("edges of Negated")
	}
}

func TestP2Joined(t *testing.T) {
	for _, a := range allValues() {
		for _, b := range allValues() {
			want := firstError(a, b, impl.VlBlank, impl.VlInt, impl.VlText, impl.VlBool)
			if want == blankValue {
				joined := strings.TrimPrefix(impl.ValueText(a), "'") + strings.TrimPrefix(impl.ValueText(b), "'")
				want = text(joined)
				if len(joined) > impl.MaxText {
					want = errOver
				}
			}
			if got := impl.Joined(a, b); got != want {
				t.Errorf("Joined(%v, %v) = %v, want %v", a, b, got, want)
			}
		}
	}
}

func TestP2JoinedAtTheEdges(t *testing.T) {
	x := strings.Repeat("x", 199)
	for i, c := range []struct{ got, want impl.Value }{
		{impl.Joined(text("a"), num(-1)), text("a-1")}, {impl.Joined(no, yes), text("FALSETRUE")}, {impl.Joined(blankValue, blankValue), text("")},
		{impl.Joined(text("'"), text("'")), text("''")}, {impl.Joined(text(x), text("y")), text(x + "y")}, {impl.Joined(text(x), num(10)), errOver},
		{impl.Joined(text(x+"y"), blankValue), text(x + "y")}, {impl.Joined(text(x+"y"), text("z")), errOver}, {impl.Joined(text(x+"yz"), text("")), errType},
		{impl.Joined(errDiv, failed(9)), errDiv}, {impl.Joined(failed(9), errDiv), errType}, {impl.Joined(text(x+"y"), errRef), errRef}, {impl.Joined(text("\x1f"), text("")), errType},
	} {
		if c.got != c.want {
			t.Errorf("line %d: %v, want %v", i, c.got, c.want)
		}
	}
}

func truthOf(b bool) impl.Value {
	if b {
		return yes
	}
	return no
}

func TestP2OneIsTheLessOrTheyAreEqual(t *testing.T) {
	for _, a := range rightValues() {
		for _, b := range rightValues() {
			if a.Kind == impl.VlError || b.Kind == impl.VlError {
				continue
			}
			less, equal, greater := impl.Held(impl.OpLt, a, b) == yes, impl.Held(impl.OpEq, a, b) == yes, impl.Held(impl.OpGt, a, b) == yes
			if less && equal || less && greater || equal && greater || !less && !equal && !greater {
				t.Errorf("%v and %v: %v %v %v", a, b, less, equal, greater)
			}
			if less != (impl.Held(impl.OpGt, b, a) == yes) || equal != (impl.Held(impl.OpEq, b, a) == yes) {
				t.Errorf("%v and %v: the other way round", a, b)
			}
			got := [3]impl.Value{impl.Held(impl.OpNe, a, b), impl.Held(impl.OpLe, a, b), impl.Held(impl.OpGe, a, b)}
			if got != [3]impl.Value{truthOf(!equal), truthOf(!greater), truthOf(!less)} {
				t.Errorf("%v and %v: %v", a, b, got)
			}
			if a.Kind != impl.VlBlank && b.Kind != impl.VlBlank && (less != (impl.Order(a, b) < 0) || equal != (a == b)) {
				t.Errorf("%v and %v: not by Order", a, b)
			}
		}
	}
}

func TestP2HeldAnswers(t *testing.T) {
	for i, c := range []struct{ got, want impl.Value }{
		{impl.Held(impl.OpEq, blankValue, num(0)), yes}, {impl.Held(impl.OpEq, text(""), blankValue), yes}, {impl.Held(impl.OpEq, blankValue, no), yes}, {impl.Held(impl.OpEq, blankValue, blankValue), yes},
		{impl.Held(impl.OpGt, blankValue, num(-1)), yes}, {impl.Held(impl.OpLt, blankValue, num(1)), yes}, {impl.Held(impl.OpLt, num(-1), blankValue), yes}, {impl.Held(impl.OpLt, blankValue, text("a")), yes}, {impl.Held(impl.OpLt, blankValue, yes), yes},
		{impl.Held(impl.OpLt, num(9), text("1")), yes}, {impl.Held(impl.OpLt, text("z"), no), yes}, {impl.Held(impl.OpGe, no, yes), no}, {impl.Held(impl.OpLt, text("a"), text("ab")), yes}, {impl.Held(impl.OpLt, text("Z"), text("a")), yes},
		{impl.Held(impl.OpNe, num(1), yes), yes}, {impl.Held(impl.OpLe, num(2), num(2)), yes}, {impl.Held(impl.OpGe, num(2), num(2)), yes}, {impl.Held(impl.OpGt, num(2), num(2)), no}, {impl.Held(impl.OpLt, num(2), num(2)), no},
		{impl.Held(impl.OpEq, errDiv, errRef), errDiv}, {impl.Held(impl.OpEq, errRef, errDiv), errRef}, {impl.Held(impl.OpEq, num(1), errRef), errRef}, {impl.Held(impl.OpEq, blankValue, errRef), errRef}, {impl.Held(impl.OpEq, errCycle, text("x")), errCycle},
	} {
		if c.got != c.want {
			t.Errorf("line %d: %v, want %v", i, c.got, c.want)
		}
	}
}

func TestP2HeldOfWhatIsWrong(t *testing.T) {
	for _, op := range []int64{math.MinInt64, -1, 0, impl.OpAdd, impl.OpJoin, impl.OpGe + 1, math.MaxInt64} {
		for _, a := range []impl.Value{num(1), errRef, blankValue, failed(9)} {
			if got := impl.Held(op, a, errDiv); got != errType {
				t.Errorf("Held(%d, %v, an error) = %v", op, a, got)
			}
		}
	}
	for op := int64(impl.OpEq); op <= impl.OpGe; op++ {
		for _, wrong := range wrongValues() {
			for _, other := range allValues() {
				if impl.Held(op, wrong, other) != errType || impl.Held(op, other, wrong) != errType {
					t.Errorf("Held(%d) of %v and %v", op, wrong, other)
				}
			}
		}
	}
}

// Behind every answer stands a right value: nothing that is wrong grows out of reckoning.
func TestP2AnswersAreRightValues(t *testing.T) {
	for _, a := range allValues() {
		for _, b := range allValues() {
			answers := []impl.Value{impl.Add(a, b), impl.Less(a, b), impl.Times(a, b), impl.Over(a, b), impl.Negated(a), impl.Joined(a, b)}
			for op := int64(impl.OpEq - 1); op <= impl.OpGe+1; op++ {
				answers = append(answers, impl.Held(op, a, b))
			}
			for i, v := range answers {
				if !impl.ValueOk(v) {
					t.Errorf("answer %d of %v and %v is %v", i, a, b, v)
				}
			}
		}
	}
}
