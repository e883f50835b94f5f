package impl

import (
	"cmp"
	"strconv"
)

const (
	VlBlank = 0
	VlInt   = 1
	VlText  = 2
	VlBool  = 3
	VlError = 4
	ErDiv   = 1
	ErType  = 2
	ErRef   = 3
	ErOver  = 4
	ErCycle = 5
	MaxInt  = 1000000000000000
	MaxText = 200
)

type Value struct {
	Kind int64
	N    int64
	S    string
}

// A meaning is what a value says. Each Kind has a type of its own, so that
// a reader of values tells them apart by a type switch and not by fields.
type meaning interface {
	right() bool
	text() string
	value() Value
}

type (
	blank   struct{}
	number  int64
	wording string
	truth   int64
	failure int64
	misfit  struct{} // of a value that is not right
)

func (blank) right() bool    { return true }
func (m number) right() bool { return m >= -MaxInt && m <= MaxInt }
func (m wording) right() bool {
	return len(m) <= MaxText && isPlain(string(m))
}
func (m truth) right() bool   { return m == 0 || m == 1 }
func (m failure) right() bool { return m >= ErDiv && m <= ErCycle }
func (misfit) right() bool    { return false }

func (blank) text() string     { return "" }
func (m number) text() string  { return strconv.FormatInt(int64(m), 10) }
func (m wording) text() string { return "'" + string(m) }
func (m truth) text() string {
	if m == 0 {
		return "FALSE"
	}
	return "TRUE"
}
func (m failure) text() string {
	switch m {
	case ErDiv:
		return "#DIV!"
	case ErType:
		return "#TYPE!"
	case ErRef:
		return "#REF!"
	case ErOver:
		return "#OVER!"
	case ErCycle:
		return "#CYCLE!"
	}
	return ""
}
func (misfit) text() string { return "" }

func (blank) value() Value     { return Value{} }
func (m number) value() Value  { return Value{Kind: VlInt, N: int64(m)} }
func (m wording) value() Value { return Value{Kind: VlText, S: string(m)} }
func (m truth) value() Value   { return Value{Kind: VlBool, N: int64(m)} }
func (m failure) value() Value { return Value{Kind: VlError, N: int64(m)} }
func (misfit) value() Value    { return Value{} }

func isPlain(s string) bool {
	for i := range len(s) {
		if s[i] < 32 || s[i] > 126 {
			return false
		}
	}
	return true
}

// meaningByKind takes the fields that the Kind names, whatever stands in them.
func meaningByKind(v Value) meaning {
	switch v.Kind {
	case VlBlank:
		return blank{}
	case VlInt:
		return number(v.N)
	case VlText:
		return wording(v.S)
	case VlBool:
		return truth(v.N)
	case VlError:
		return failure(v.N)
	}
	return misfit{}
}

func meaningOf(v Value) meaning {
	m := meaningByKind(v)
	// A field that the Kind does not name is lost on the way back, so v must come back whole.
	if m.right() && m.value() == v {
		return m
	}
	return misfit{}
}

func ValueOk(v Value) bool { return meaningOf(v).right() }

func ValueText(v Value) string { return meaningOf(v).text() }

func ReadValue(s string) (Value, bool) {
	m := guessed(s)
	if !m.right() {
		return Value{}, false
	}
	return m.value(), true
}

// guessed answers the only meaning that could have this text; it may lie beyond a limit.
func guessed(s string) meaning {
	if s == "" {
		return blank{}
	}
	if s[0] == '\'' {
		return wording(s[1:])
	}
	for n := truth(0); n <= 1; n++ {
		if n.text() == s {
			return n
		}
	}
	for n := failure(ErDiv); n <= ErCycle; n++ {
		if n.text() == s {
			return n
		}
	}
	if n, ok := readDecimal(s); ok {
		return number(n)
	}
	return misfit{}
}

func Order(a Value, b Value) int64 {
	return int64(cmp.Or(cmp.Compare(a.Kind, b.Kind), cmp.Compare(a.N, b.N), cmp.Compare(a.S, b.S)))
}

// asNumber answers v as a number and 0, or the error that is to be told in its place.
func asNumber(v Value) (int64, failure) {
	switch m := meaningOf(v).(type) {
	case blank:
		return 0, 0
	case number:
		return int64(m), 0
	case failure:
		return 0, m
	}
	return 0, ErType
}

// asText answers v as a text and 0, or the error that is to be told in its place.
func asText(v Value) (string, failure) {
	switch m := meaningOf(v).(type) {
	case wording:
		return string(m), 0
	case failure:
		return "", m
	case misfit:
		return "", ErType
	default:
		return m.text(), 0
	}
}

// asTruth answers v as a truth value and 0, or the error that is to be told in its place.
func asTruth(v Value) (bool, failure) {
	switch m := meaningOf(v).(type) {
	case blank:
		return false, 0
	case number:
		return m != 0, 0
	case truth:
		return m != 0, 0
	case failure:
		return false, m
	}
	return false, ErType
}

func truthValue(holds bool) Value {
	if holds {
		return truth(1).value()
	}
	return truth(0).value()
}

func bothAsNumbers(a Value, b Value) (int64, int64, failure) {
	x, refusal := asNumber(a)
	if refusal != 0 {
		return 0, 0, refusal
	}
	y, refusal := asNumber(b)
	return x, y, refusal
}

func numberOrOver(n int64) Value {
	if !number(n).right() {
		return failure(ErOver).value()
	}
	return number(n).value()
}

func Add(a Value, b Value) Value {
	x, y, refusal := bothAsNumbers(a, b)
	if refusal != 0 {
		return refusal.value()
	}
	return numberOrOver(x + y)
}

func Less(a Value, b Value) Value {
	x, y, refusal := bothAsNumbers(a, b)
	if refusal != 0 {
		return refusal.value()
	}
	return numberOrOver(x - y)
}

func Times(a Value, b Value) Value {
	x, y, refusal := bothAsNumbers(a, b)
	if refusal != 0 {
		return refusal.value()
	}
	// Asked ahead of multiplying: the product itself could wrap back into the limits.
	if x != 0 && size(y) > MaxInt/size(x) {
		return failure(ErOver).value()
	}
	return number(x * y).value()
}

func size(n int64) int64 { return max(n, -n) }

func Over(a Value, b Value) Value {
	x, y, refusal := bothAsNumbers(a, b)
	if refusal != 0 {
		return refusal.value()
	}
	if y == 0 {
		return failure(ErDiv).value()
	}
	return number(x / y).value()
}

func Joined(a Value, b Value) Value {
	x, refusal := asText(a)
	if refusal != 0 {
		return refusal.value()
	}
	y, refusal := asText(b)
	if refusal != 0 {
		return refusal.value()
	}
	if len(x)+len(y) > MaxText {
		return failure(ErOver).value()
	}
	return wording(x + y).value()
}

func Negated(a Value) Value { return Less(number(0).value(), a) }

func Held(op int64, a Value, b Value) Value {
	if !ValueOk(a) || !ValueOk(b) || op < OpEq || op > OpGe {
		return failure(ErType).value()
	}
	if a.Kind == VlError {
		return a
	}
	if b.Kind == VlError {
		return b
	}
	return truthValue(holds(op, Order(besideOther(a, b), besideOther(b, a))))
}

// besideOther lets a blank count as the zero value of the other one's Kind.
func besideOther(v Value, other Value) Value {
	if v.Kind == VlBlank {
		return Value{Kind: other.Kind}
	}
	return v
}

func holds(op int64, order int64) bool {
	switch op {
	case OpEq:
		return order == 0
	case OpNe:
		return order != 0
	case OpLt:
		return order < 0
	case OpLe:
		return order <= 0
	case OpGt:
		return order > 0
	}
	return order >= 0
}
