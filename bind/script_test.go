package bind_test

import (
	"bytes"
	"fmt"
	"testing"

	"vestry/algebra"
	"vestry/api"
	"vestry/bind"
)

func TestATranscriptOfItsLabelAlone(t *testing.T) {
	for _, n := range lengths() {
		label := string(some(n))
		checkAll(t, fmt.Sprintf("a label of %d bytes", n), bind.New(label), written(label))
	}
}

func TestOneTextUnderALabel(t *testing.T) {
	for _, k := range lengths() {
		for _, n := range lengths() {
			x := item{string(some(k)), some(n)}
			checkAll(t, fmt.Sprintf("%d bytes under a label of %d", n, k), made("a", x), written("a", x))
		}
	}
}

func TestManyTextsUnderLabels(t *testing.T) {
	var items []item
	s := bind.New("many")
	for i, n := range append(lengths(), 0, 5, 300, 0, 1, 64, 128) {
		x := item{string(some(i * 40)), some(n)}
		items = append(items, x)
		s.Add(x.label, x.b)
		checkAll(t, fmt.Sprintf("%d texts", len(items)), s, written("many", items...))
	}
	for i := range 300 {
		x := item{"one of many", some(i % 7)}
		items = append(items, x)
		s.Add(x.label, x.b)
	}
	checkAll(t, "many texts", s, written("many", items...))
}

func TestQuestionsUnderLabels(t *testing.T) {
	x := item{"b", []byte("c")}
	s, transcript := made("a", x), written("a", x)
	for _, n := range lengths() {
		label := string(some(n))
		checkScalarAndPoint(t, "a question", s, transcript, label)
		checkBytes(t, "a question", s, transcript, label, 100)
	}
}

// A form counts bytes, whatever letters they are, and whether they are letters or not.
func TestLabelsAreBytes(t *testing.T) {
	for _, label := range []string{"\u00e9", "\u65e5\u672c", "a\x00b", "\x00", "\xff\xfe", "\xe9", "\U0001f600"} {
		x := item{label, []byte(label)}
		s, transcript := made(label, x), written(label, x)
		checkAll(t, fmt.Sprintf("%q", label), s, transcript)
		checkScalarAndPoint(t, "that label", s, transcript, label)
		checkBytes(t, "that label", s, transcript, label, 40)
	}
}

// Only a text of 2^24 bytes has a form whose first byte is not a nought.
func TestAFormOfFourBytes(t *testing.T) {
	x := item{"long", some(1<<24 + 258)}
	s, transcript := made("a", x), written("a", x)
	checkScalarAndPoint(t, "a long text", s, transcript, "x")
	checkBytes(t, "a long text", s, transcript, "x", 32)
	long := string(x.b)
	checkScalarAndPoint(t, "a long label", bind.New(long), written(long), "x")
}

func TestBytesOfAllLengths(t *testing.T) {
	x := item{"b", some(200)}
	s, transcript := made("a", x), written("a", x)
	most := s.Bytes("x", 8160)
	for _, n := range taken() {
		checkBytes(t, "lengths", s, transcript, "x", n)
		if !bytes.Equal(s.Bytes("x", n), most[:n]) {
			t.Errorf("Bytes of %d are no beginning of those of 8160", n)
		}
	}
	for _, n := range refused() {
		if got := s.Bytes("x", n); len(got) != 0 {
			t.Errorf("Bytes of %d are %d bytes, want none", n, len(got))
		}
	}
	checkAll(t, "behind lengths that may not be", s, transcript)
}

func TestAddIsInPlace(t *testing.T) {
	s := bind.New("a")
	if s.Add("b", []byte("c")) != s || s.Add("", nil) != s || s.Add("d", some(70000)) != s {
		t.Error("Add answers another Script")
	}
	checkAll(t, "added", s, written("a", item{"b", []byte("c")}, item{}, item{"d", some(70000)}))
	row := bind.New("a").Add("b", []byte("c")).Add("", nil).Add("d", some(70000))
	checkAll(t, "added in a row", row, written("a", item{"b", []byte("c")}, item{}, item{"d", some(70000)}))
}

func TestNewAnswersAScriptOfItsOwn(t *testing.T) {
	a, b := bind.New("a"), bind.New("a")
	if a == b {
		t.Fatal("one Script for two calls")
	}
	a.Add("b", []byte("c"))
	checkAll(t, "the other", b, written("a"))
}

// Whatever room there is behind a transcript: it is filled by one of both alone.
func TestACopyGoesItsOwnWay(t *testing.T) {
	var items []item
	s := bind.New("a")
	for n := range 40 {
		c := s.Copy()
		if c == s {
			t.Fatal("Copy answers the same Script")
		}
		checkAll(t, "a copy", c, written("a", items...))
		mine, its := item{"mine", some(n)}, item{"its", some(n + 1)}
		c.Add(its.label, its.b)
		checkAll(t, "the first, its copy added to", s, written("a", items...))
		s.Add(mine.label, mine.b)
		checkAll(t, "the copy, both added to", c, written("a", append(items[:len(items):len(items)], its)...))
		items = append(items, mine)
		checkAll(t, "the first, both added to", s, written("a", items...))
	}
}

func TestCopiesOfCopies(t *testing.T) {
	s := made("a", item{"b", some(50)})
	one, two := s.Copy(), s.Copy()
	three := one.Copy()
	s.Add("s", some(1))
	one.Add("one", some(2))
	two.Add("two", some(3))
	three.Add("three", some(4))
	checkAll(t, "the first", s, written("a", item{"b", some(50)}, item{"s", some(1)}))
	checkAll(t, "one", one, written("a", item{"b", some(50)}, item{"one", some(2)}))
	checkAll(t, "two", two, written("a", item{"b", some(50)}, item{"two", some(3)}))
	checkAll(t, "three", three, written("a", item{"b", some(50)}, item{"three", some(4)}))
}

func TestToAskChangesNothing(t *testing.T) {
	s := bind.New("a")
	var items []item
	for n := range 20 {
		what := fmt.Sprintf("asked ahead of text %d", n)
		checkAll(t, what, s, written("a", items...))
		checkAll(t, what+", again", s, written("a", items...))
		s.Scalar(string(some(n)))
		s.Point(string(some(n)))
		s.Bytes(string(some(n)), 8160)
		s.Bytes(string(some(n)), -1)
		s.Copy()
		x := item{"b", some(n)}
		s.Add(x.label, x.b)
		items = append(items, x)
	}
	checkAll(t, "asked all along", s, written("a", items...))
}

// Unlike questions of one transcript are told apart, and so are unlike labels.
func TestUnlikeQuestions(t *testing.T) {
	s := made("a", item{"b", []byte("c")})
	if s.Scalar("x") == s.Scalar("y") || s.Point("x") == s.Point("y") || bytes.Equal(s.Bytes("x", 32), s.Bytes("y", 32)) {
		t.Error("the labels x and y ask the same")
	}
	transcript := written("a", item{"b", []byte("c")})
	if s.Scalar("x") == algebra.Reduce(askedOf(transcript, 3, "x")) || s.Point("x") == algebra.Map(askedOf(transcript, 2, "x")) {
		t.Error("a scalar and a point are asked for with one number")
	}
}

// Transcripts of the same bytes, were it not for where one text ends and the next begins, and of the same texts otherwise laid.
func TestUnlikeTranscripts(t *testing.T) {
	all := map[string]*bind.Script{
		"b c":          made("a", item{"b", []byte("c")}),
		"bc":           made("a", item{"bc", nil}),
		"none, bc":     made("a", item{"", []byte("bc")}),
		"ab c":         made("ab", item{"", []byte("c")}),
		"abc":          bind.New("abc"),
		"c b":          made("a", item{"c", []byte("b")}),
		"b, c":         made("a", item{"b", nil}, item{"c", nil}),
		"c, b":         made("a", item{"c", nil}, item{"b", nil}),
		"b c, none":    made("a", item{"b", []byte("c")}, item{}),
		"none, b c":    made("a", item{}, item{"b", []byte("c")}),
		"b c0":         made("a", item{"b", []byte("c\x00")}),
		"b cd, b ef":   made("a", item{"b", []byte("cd")}, item{"b", []byte("ef")}),
		"b c, b def":   made("a", item{"b", []byte("c")}, item{"b", []byte("def")}),
		"b cde, b f":   made("a", item{"b", []byte("cde")}, item{"b", []byte("f")}),
		"b cdef":       made("a", item{"b", []byte("cdef")}),
		"b cdef, b":    made("a", item{"b", []byte("cdef")}, item{"b", nil}),
		"b, b cdef":    made("a", item{"b", nil}, item{"b", []byte("cdef")}),
		"a text of it": made("a", item{"b", written("", item{"b", []byte("c")})}),
	}
	scalars, points, texts := map[api.Scalar]string{}, map[api.Point]string{}, map[string]string{}
	for what, s := range all {
		k, p, b := s.Scalar("x"), s.Point("x"), string(s.Bytes("x", 32))
		if scalars[k] != "" || points[p] != "" || texts[b] != "" {
			t.Errorf("%q asks what another one asks: %q, %q, %q", what, scalars[k], points[p], texts[b])
		}
		scalars[k], points[p], texts[b] = what, what, what
	}
}

func TestScriptNilIsEmpty(t *testing.T) {
	for _, empty := range [][]byte{nil, {}, make([]byte, 0, 50), []byte("abc")[3:]} {
		checkAll(t, "an empty text", bind.New("a").Add("b", empty), written("a", item{"b", nil}))
	}
}

func TestAScriptThatIsNotThere(t *testing.T) {
	var s *bind.Script
	if s.Add("a", []byte("b")) != nil || s.Add("", nil) != nil || s.Copy() != nil {
		t.Error("Add or Copy of nil answers a Script")
	}
	if s.Add("a", nil).Copy().Add("b", some(40)) != nil {
		t.Error("calls in a row of nil answer a Script")
	}
	for _, label := range []string{"", "x", string(some(300))} {
		if s.Scalar(label) != (api.Scalar{}) || s.Point(label) != (api.Point{}) {
			t.Errorf("nil: Scalar %x, Point %x", s.Scalar(label), s.Point(label))
		}
		for _, n := range append(taken(), refused()...) {
			if got := s.Bytes(label, n); len(got) != 0 {
				t.Errorf("nil: Bytes of %d are %d bytes", n, len(got))
			}
		}
	}
}

func TestTextsStayAsTheyWereAndAreNotKept(t *testing.T) {
	for _, n := range lengths() {
		b, same := guarded(some(n))
		s := bind.New("a").Add("b", b)
		c := s.Copy().Add("c", b)
		checkAll(t, "a text", s, written("a", item{"b", some(n)}))
		if !same() {
			t.Errorf("a text of %d bytes, or its room, was changed", n)
		}
		scribbled(b)
		checkAll(t, "a text that was changed later", s, written("a", item{"b", some(n)}))
		checkAll(t, "its copy", c, written("a", item{"b", some(n)}, item{"c", some(n)}))
	}
}

func TestScriptAnswersNewMemory(t *testing.T) {
	x := item{"b", some(100)}
	s, transcript := made("a", x), written("a", x)
	for _, n := range taken() {
		one, two := s.Bytes("x", n), s.Bytes("x", n)
		scribbled(one)
		if !bytes.Equal(two, bytesOf(transcript, "x", n)) {
			t.Errorf("two answers of %d bytes share memory", n)
		}
		scribbled(two)
		checkBytes(t, "behind answers that were changed", s, transcript, "x", n)
	}
	checkAll(t, "behind answers that were changed", s, transcript)
}
