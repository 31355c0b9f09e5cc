package name_test

import (
	"math/rand"
	"regexp"
	"slices"
	"strings"
	"testing"
	"unsafe"

	"legate/api"
	"legate/name"
)

// The model: what a realm and a principal's name are, as patterns, and a realm
// as its labels, the top's first.

var (
	domainPattern  = regexp.MustCompile(`^[A-Z]{1,8}(\.[A-Z]{1,8}){0,3}$`)
	slashedPattern = regexp.MustCompile(`^(/[A-Z]{1,8}){1,4}$`)
	plainPattern   = regexp.MustCompile(`^[a-z0-9]{1,8}$`)
)

func modelKind(r string) int {
	switch {
	case domainPattern.MatchString(r):
		return 1
	case slashedPattern.MatchString(r):
		return 2
	}
	return 0
}

// modelLabels is a realm's labels, the top's first.
func modelLabels(r string) []string {
	if modelKind(r) == 2 {
		return strings.Split(r, "/")[1:]
	}
	l := strings.Split(r, ".")
	slices.Reverse(l)
	return l
}

// modelRealm is the realm of such labels; of none it is nothing.
func modelRealm(kind int, labels []string) string {
	if kind == 2 {
		return strings.Join(append([]string{""}, labels...), "/")
	}
	l := slices.Clone(labels)
	slices.Reverse(l)
	return strings.Join(l, ".")
}

func modelUp(r string) string {
	if modelKind(r) == 0 {
		return ""
	}
	l := modelLabels(r)
	return modelRealm(modelKind(r), l[:len(l)-1])
}

func modelUnder(a, b string) bool {
	if modelKind(a) == 0 || modelKind(a) != modelKind(b) {
		return false
	}
	p, q := modelLabels(a), modelLabels(b)
	return len(p) > len(q) && slices.Equal(p[:len(q)], q)
}

// modelBetween goes by how many labels both realms share, from the top on.
func modelBetween(a, b string) []string {
	if modelKind(a) == 0 || modelKind(b) == 0 {
		return nil
	}
	p, q, shared := modelLabels(a), modelLabels(b), 0
	for modelKind(a) == modelKind(b) && shared < min(len(p), len(q)) && p[shared] == q[shared] {
		shared++
	}
	var way []string
	add := func(r string) {
		if r != a && r != b {
			way = append(way, r)
		}
	}
	for n := len(p); n > shared; n-- {
		add(modelRealm(modelKind(a), p[:n]))
	}
	if shared > 0 {
		add(modelRealm(modelKind(a), p[:shared]))
	}
	for n := shared + 1; n <= len(q); n++ {
		add(modelRealm(modelKind(b), q[:n]))
	}
	return way
}

func modelTarget(n string) string {
	if len(n) > 7 && n[:7] == "krbtgt/" && modelKind(n[7:]) != 0 {
		return n[7:]
	}
	return ""
}

func modelIsPrinc(p api.Princ) bool {
	return modelKind(p.Realm) != 0 && (plainPattern.MatchString(p.Name) || modelTarget(p.Name) != "")
}

// smallRealms is all realms of both kinds of a few labels, where one label ends
// or begins like another.
func smallRealms() []string {
	labels := []string{"A", "B", "AB"}
	rows := [][]string{nil}
	var l []string
	for range 4 {
		var longer [][]string
		for _, row := range rows {
			for _, label := range labels {
				longer = append(longer, append(slices.Clone(row), label))
			}
		}
		for _, row := range longer {
			l = append(l, strings.Join(row, "."), "/"+strings.Join(row, "/"))
		}
		rows = longer
	}
	return l
}

// longRealms is realms with as many labels, and as long ones, as may be.
func longRealms() []string {
	return []string{
		"ABCDEFGH", "/ABCDEFGH", "ABCDEFGH.IJKLMNOP", "/ABCDEFGH/IJKLMNOP",
		"ABCDEFGH.IJKLMNOP.QRSTUVWX.YZABCDEF", "/ABCDEFGH/IJKLMNOP/QRSTUVWX/YZABCDEF",
		"A.B.C.D", "/A/B/C/D", "Z.Z.Z.Z", "/Z/Z/Z/Z", "X.ABCDEFGH.IJKLMNOP", "/ABCDEFGH/IJKLMNOP/X",
	}
}

// noRealms is what is no realm, each for a reason of its own.
func noRealms() []string {
	return []string{
		"", ".", "/", "..", "//", "./", "/.", " ", "\x00",
		"A.B.C.D.E", "/A/B/C/D/E", "ABCDEFGHI", "/ABCDEFGHI", "ABCDEFGHI.EDU", "EDU.ABCDEFGHI", "/EDU/ABCDEFGHI", "/ABCDEFGHI/EDU",
		"A.B.ABCDEFGHI.D", "/A/B/ABCDEFGHI/D", "A.B.C.ABCDEFGHI", "/A/B/C/ABCDEFGHI",
		".EDU", "EDU.", "MIT..EDU", ".MIT.EDU", "MIT.EDU.", "A.B.C.", ".A.B.C", "A.B.C.D.", ".A.B.C.D",
		"//EDU", "EDU/", "/EDU/", "/MIT//EDU", "//MIT/EDU", "/MIT/EDU/", "/A/B/C/D/", "//A/B/C/D",
		"MIT/EDU", "A/B/C/D", "/MIT.EDU", "MIT.EDU/COM", "MIT/EDU.COM", "/MIT/EDU.COM", "/MIT.EDU/COM", "MIT./EDU", "MIT/.EDU", "./EDU", "/.EDU", "/EDU.", "./A.B",
		"edu", "Edu", "eDU", "EDu", "/com", "/Com", "/COM/hp", "/com/HP", "MIT.edu", "mit.EDU",
		"EDU1", "1", "/1", "A1B", "MIT.3", "/COM/9", "A-B", "A_B", "A B", " EDU", "EDU ", " /COM", "/ COM", "/COM ", "EDU\n", "\nEDU", "/COM\n", "EDU\x00", "A,B", "MIT .EDU",
		"É", "ÉDU", "EDU\xff", "\xc3", "/É", "/\xff", "Ａ", "krbtgt/EDU", "@", "[", "/@", "/[", "A.@", "A.[",
	}
}

// allRealmsAndNone is realms of both kinds, and what is none.
func allRealmsAndNone() []string {
	return slices.Concat([]string{
		"EDU", "COM", "/COM", "/EDU", "A.EDU", "B.EDU", "X.A.EDU", "Y.A.EDU", "Y.B.EDU", "X.COM", "W.X.A.EDU",
		"/COM/HP", "/COM/DEC", "/COM/HP/APOLLO", "/COM/HP/APOLLO/X", "/EDU/MIT",
	}, longRealms(), noRealms())
}

func eachText(alphabet string, longest int, visit func(string)) {
	var row []byte
	var further func()
	further = func() {
		visit(string(row))
		if len(row) == longest {
			return
		}
		for i := range len(alphabet) {
			row = append(row, alphabet[i])
			further()
			row = row[:len(row)-1]
		}
	}
	further()
}

func wantKind(t *testing.T, r string, want int) {
	t.Helper()
	if got := name.Kind(r); got != want {
		t.Errorf("Kind(%q) is %d, not %d", r, got, want)
	}
	if got := name.Is(r); got != (want != 0) {
		t.Errorf("Is(%q) is %v, and its Kind %d", r, got, want)
	}
}

func wantBetween(t *testing.T, a, b string, want ...string) {
	t.Helper()
	if got := name.Between(a, b); !slices.Equal(got, want) {
		t.Errorf("Between(%q, %q) is %q, not %q", a, b, got, want)
	}
}

// P5.1: realms of both kinds, and what is none.
func TestKind(t *testing.T) {
	for _, r := range []string{
		"A", "Z", "EDU", "MIT.EDU", "ATHENA.MIT.EDU", "CS.ATHENA.MIT.EDU", "A.A", "A.A.A.A", "KRBTGT",
		"ABCDEFGH", "IJKLMNOP", "QRSTUVWX", "YZ", "ABCDEFGH.ABCDEFGH.ABCDEFGH.ABCDEFGH",
	} {
		wantKind(t, r, 1)
	}
	for _, r := range []string{
		"/A", "/Z", "/COM", "/COM/HP", "/COM/HP/APOLLO", "/COM/HP/APOLLO/X", "/A/A/A/A",
		"/ABCDEFGH", "/IJKLMNOP", "/QRSTUVWX", "/YZ", "/ABCDEFGH/ABCDEFGH/ABCDEFGH/ABCDEFGH",
	} {
		wantKind(t, r, 2)
	}
	for _, r := range noRealms() {
		wantKind(t, r, 0)
	}
}

// P5.1: by how many labels, of how many bytes, wherever the longer one stands.
func TestKindByCounts(t *testing.T) {
	for labels := range api.MaxLabels + 3 {
		for place := range labels {
			for size := range api.MaxLabel + 4 {
				l := slices.Repeat([]string{"EDU"}, labels)
				l[place] = strings.Repeat("Q", size)
				want := 0
				if labels <= 4 && size >= 1 && size <= 8 {
					want = 1
				}
				wantKind(t, strings.Join(l, "."), want)
				wantKind(t, "/"+strings.Join(l, "/"), 2*want)
			}
		}
	}
}

// P5.1: a sign between or ahead of some labels alone, or both signs in one text.
func TestKindBySigns(t *testing.T) {
	signs := []string{"", ".", "/"}
	for _, ahead := range signs {
		for _, first := range signs {
			for _, second := range signs {
				for _, behind := range signs {
					r := ahead + "A" + first + "B" + second + "C" + behind
					wantKind(t, r, modelKind(r))
				}
			}
		}
	}
}

// P5.1: each byte there is, at each place of a realm.
func TestKindOfEachByte(t *testing.T) {
	for _, r := range []string{"Q", "QRS", "QR.ST", "Q.R.S.T", "/Q", "/QRS", "/QR/ST", "/Q/R/S/T", "ABCDEFGH", "/ABCDEFGH"} {
		for i := range r {
			for c := range 256 {
				turned := []byte(r)
				turned[i] = byte(c)
				wantKind(t, string(turned), modelKind(string(turned)))
				added := slices.Insert([]byte(r), i, byte(c))
				wantKind(t, string(added), modelKind(string(added)))
			}
		}
	}
	for c := range 256 {
		want := 0
		if c >= 'A' && c <= 'Z' {
			want = 1
		}
		wantKind(t, string([]byte{byte(c)}), want)
		wantKind(t, string([]byte{'/', byte(c)}), 2*want)
	}
}

// P5.1: all short texts of a few bytes, and many longer ones.
func TestKindOfAllShortTexts(t *testing.T) {
	eachText("AZ./a", 7, func(r string) { wantKind(t, r, modelKind(r)) })
	eachText("A./", 10, func(r string) { wantKind(t, r, modelKind(r)) })
	rnd := rand.New(rand.NewSource(51))
	alphabet := "ABCDEFGHIJKLMNOPQRSTUVWXYZ......//////az09 "
	for range 50000 {
		r := make([]byte, rnd.Intn(45))
		for i := range r {
			r[i] = alphabet[rnd.Intn(len(alphabet))]
		}
		wantKind(t, string(r), modelKind(string(r)))
	}
}

// P5.1: a to z as A to Z, each byte by itself.
func TestCanonOfEachByte(t *testing.T) {
	capitals := "ABCDEFGHIJKLMNOPQRSTUVWXYZ"
	for c := range 256 {
		want := string([]byte{byte(c)})
		if c >= 'a' && c <= 'z' {
			want = capitals[c-'a' : c-'a'+1]
		}
		for _, around := range []string{"", "A", "a", "é", "\xff"} {
			s := around + string([]byte{byte(c)}) + around
			w := strings.ReplaceAll(around, "a", "A")
			if got := name.Canon(s); got != w+want+w {
				t.Errorf("Canon(%q) is %q, not %q", s, got, w+want+w)
			}
		}
	}
}

// P5.1: texts with bytes of every kind.
func TestCanon(t *testing.T) {
	for s, want := range map[string]string{
		"":                    "",
		"edu":                 "EDU",
		"EDU":                 "EDU",
		"Mit.Edu":             "MIT.EDU",
		"/com/hp":             "/COM/HP",
		"abcdefghijklmnop":    "ABCDEFGHIJKLMNOP",
		"qrstuvwxyz":          "QRSTUVWXYZ",
		"`az{":                "`AZ{",
		"@AZ[":                "@AZ[",
		"a1 b-2\x00c\n":       "A1 B-2\x00C\n",
		"é ß ſ ı ÿ K k":       "é ß ſ ı ÿ K K",
		"ａｂ":                  "ａｂ",
		"x\xffy\xc3z\xe2\x84": "X\xffY\xc3Z\xe2\x84",
		"\xe1\xfa":            "\xe1\xfa",
		"krbtgt/EDU":          "KRBTGT/EDU",
	} {
		if got := name.Canon(s); got != want {
			t.Errorf("Canon(%q) is %q, not %q", s, got, want)
		}
		if got := name.Canon(name.Canon(s)); got != want {
			t.Errorf("Canon of Canon(%q) is %q, not %q", s, got, want)
		}
	}
	rnd := rand.New(rand.NewSource(52))
	for range 3000 {
		b, want := make([]byte, rnd.Intn(60)), []byte{}
		rnd.Read(b)
		for _, c := range b {
			if strings.IndexByte("abcdefghijklmnopqrstuvwxyz", c) >= 0 {
				c -= 32
			}
			want = append(want, c)
		}
		if got := name.Canon(string(b)); got != string(want) {
			t.Errorf("Canon(%q) is %q, not %q", b, got, want)
		}
	}
}

// P5.1: Up of realms of both kinds, of tops, of what is none.
func TestUp(t *testing.T) {
	for r, want := range map[string]string{
		"EDU":                                  "",
		"/COM":                                 "",
		"MIT.EDU":                              "EDU",
		"/COM/HP":                              "/COM",
		"ATHENA.MIT.EDU":                       "MIT.EDU",
		"/COM/HP/APOLLO":                       "/COM/HP",
		"X.ATHENA.MIT.EDU":                     "ATHENA.MIT.EDU",
		"/COM/HP/APOLLO/X":                     "/COM/HP/APOLLO",
		"A.A.A.A":                              "A.A.A",
		"/A/A/A/A":                             "/A/A/A",
		"A.A":                                  "A",
		"/A/A":                                 "/A",
		"ABCDEFGH":                             "",
		"/ABCDEFGH":                            "",
		"ABCDEFGH.IJKLMNOP":                    "IJKLMNOP",
		"/ABCDEFGH/IJKL":                       "/ABCDEFGH",
		"ABCDEFGH.IJKLMNOP.QRSTUVWX.YZABCDEF":  "IJKLMNOP.QRSTUVWX.YZABCDEF",
		"/ABCDEFGH/IJKLMNOP/QRSTUVWX/YZABCDEF": "/ABCDEFGH/IJKLMNOP/QRSTUVWX",
	} {
		if got := name.Up(r); got != want {
			t.Errorf("Up(%q) is %q, not %q", r, got, want)
		}
	}
	for _, r := range noRealms() {
		if got := name.Up(r); got != "" {
			t.Errorf("Up(%q), of no realm, is %q", r, got)
		}
	}
	for _, r := range slices.Concat(smallRealms(), longRealms()) {
		if got, want := name.Up(r), modelUp(r); got != want {
			t.Errorf("Up(%q) is %q, not %q", r, got, want)
		}
	}
}

// P5.1: Under of realms that were written down.
func TestUnder(t *testing.T) {
	for _, w := range []struct {
		a, b string
		want bool
	}{
		{"A.EDU", "EDU", true},
		{"X.A.EDU", "EDU", true},
		{"X.A.EDU", "A.EDU", true},
		{"W.X.A.EDU", "EDU", true},
		{"W.X.A.EDU", "X.A.EDU", true},
		{"/COM/HP", "/COM", true},
		{"/COM/HP/APOLLO/X", "/COM", true},
		{"/COM/HP/APOLLO/X", "/COM/HP/APOLLO", true},
		{"A.A", "A", true},
		{"/A/A", "/A", true},
		{"EDU", "EDU", false},
		{"A.EDU", "A.EDU", false},
		{"/COM", "/COM", false},
		{"/COM/HP", "/COM/HP", false},
		{"EDU", "A.EDU", false},
		{"A.EDU", "X.A.EDU", false},
		{"/COM", "/COM/HP", false},
		{"/COM/HP", "/COM/HP/APOLLO", false},
		{"A.EDU", "B.EDU", false},
		{"A.EDU", "COM", false},
		{"XA.EDU", "A.EDU", false},
		{"X.AEDU", "EDU", false},
		{"X.A.EDU", "X.A", false},
		{"X.A.EDU", "X", false},
		{"X.A.EDU", "X.EDU", false},
		{"/COM/HPX", "/COM/HP", false},
		{"/COMX/HP", "/COM", false},
		{"/COM/HP", "/HP", false},
		{"/COM/HP", "COM", false},
		{"/COM/HP", "HP", false},
		{"HP.COM", "/COM", false},
		{"HP.COM", "/HP", false},
	} {
		if got := name.Under(w.a, w.b); got != w.want {
			t.Errorf("Under(%q, %q) is %v", w.a, w.b, got)
		}
	}
}

// P5.1: nothing is Under what is no realm, nor is that Under anything.
func TestUnderOfNoRealm(t *testing.T) {
	l := allRealmsAndNone()
	for _, r := range noRealms() {
		for _, other := range l {
			if name.Under(r, other) || name.Under(other, r) {
				t.Errorf("%q, which is no realm, is Under %q, or that Under it", r, other)
			}
		}
	}
}

// P5.1: Under is what Up comes to, asked once or more often.
func TestUnderIsUpOfUp(t *testing.T) {
	l := slices.Concat(smallRealms(), longRealms())
	for _, a := range l {
		above := []string{}
		for r := name.Up(a); r != ""; r = name.Up(r) {
			above = append(above, r)
		}
		for _, b := range l {
			got := name.Under(a, b)
			if got != slices.Contains(above, b) || got != modelUnder(a, b) {
				t.Errorf("Under(%q, %q) is %v; above the first one are %q", a, b, got, above)
			}
		}
	}
}

// P5.2: the chapter's examples.
func TestBetweenExamples(t *testing.T) {
	wantBetween(t, "X.A.EDU", "Y.B.EDU", "A.EDU", "EDU", "B.EDU")
	wantBetween(t, "X.COM", "EDU", "COM")
}

// P5.2: ways that were written down.
func TestBetween(t *testing.T) {
	for _, w := range []struct {
		a, b string
		want []string
	}{
		// One realm.
		{"EDU", "EDU", nil},
		{"X.A.EDU", "X.A.EDU", nil},
		{"/COM", "/COM", nil},
		{"/COM/HP", "/COM/HP", nil},
		// One below the other.
		{"A.EDU", "EDU", nil},
		{"X.A.EDU", "EDU", []string{"A.EDU"}},
		{"W.X.A.EDU", "EDU", []string{"X.A.EDU", "A.EDU"}},
		{"W.X.A.EDU", "A.EDU", []string{"X.A.EDU"}},
		{"/COM/HP", "/COM", nil},
		{"/COM/HP/APOLLO", "/COM", []string{"/COM/HP"}},
		{"/COM/HP/APOLLO/X", "/COM", []string{"/COM/HP/APOLLO", "/COM/HP"}},
		{"A.A.A.A", "A", []string{"A.A.A", "A.A"}},
		{"/A/A/A/A", "/A", []string{"/A/A/A", "/A/A"}},
		// One tree.
		{"A.EDU", "B.EDU", []string{"EDU"}},
		{"X.A.EDU", "Y.A.EDU", []string{"A.EDU"}},
		{"X.A.EDU", "B.EDU", []string{"A.EDU", "EDU"}},
		{"W.X.A.EDU", "V.Y.A.EDU", []string{"X.A.EDU", "A.EDU", "Y.A.EDU"}},
		{"W.X.A.EDU", "V.Y.B.EDU", []string{"X.A.EDU", "A.EDU", "EDU", "B.EDU", "Y.B.EDU"}},
		{"X.A.EDU", "X.B.EDU", []string{"A.EDU", "EDU", "B.EDU"}},
		{"/COM/HP", "/COM/DEC", []string{"/COM"}},
		{"/COM/HP/APOLLO", "/COM/DEC", []string{"/COM/HP", "/COM"}},
		{"/COM/HP/APOLLO/X", "/COM/DEC/VAX/Y", []string{"/COM/HP/APOLLO", "/COM/HP", "/COM", "/COM/DEC", "/COM/DEC/VAX"}},
		// Two trees.
		{"COM", "EDU", nil},
		{"A.EDU", "COM", []string{"EDU"}},
		{"X.A.EDU", "COM", []string{"A.EDU", "EDU"}},
		{"A.EDU", "B.COM", []string{"EDU", "COM"}},
		{"A.EDU", "A.COM", []string{"EDU", "COM"}},
		{"X.A.EDU", "Y.B.COM", []string{"A.EDU", "EDU", "COM", "B.COM"}},
		{"W.X.A.EDU", "V.Y.B.COM", []string{"X.A.EDU", "A.EDU", "EDU", "COM", "B.COM", "Y.B.COM"}},
		{"A.B", "B.A", []string{"B", "A"}},
		{"/COM", "/EDU", nil},
		{"/COM/HP", "/EDU", []string{"/COM"}},
		{"/COM/HP", "/EDU/MIT", []string{"/COM", "/EDU"}},
		{"/COM/HP/APOLLO", "/EDU/HP/APOLLO", []string{"/COM/HP", "/COM", "/EDU", "/EDU/HP"}},
		// Two kinds.
		{"COM", "/COM", nil},
		{"A.COM", "/COM", []string{"COM"}},
		{"COM", "/COM/A", []string{"/COM"}},
		{"A.COM", "/COM/A", []string{"COM", "/COM"}},
		{"HP.COM", "/EDU/MIT/CS", []string{"COM", "/EDU", "/EDU/MIT"}},
		{"A.A.A.A", "/A/A/A/A", []string{"A.A.A", "A.A", "A", "/A", "/A/A", "/A/A/A"}},
	} {
		wantBetween(t, w.a, w.b, w.want...)
		slices.Reverse(w.want)
		wantBetween(t, w.b, w.a, w.want...)
	}
}

// P5.2: of what is no realm, on either side or on both: nothing.
func TestBetweenOfNoRealm(t *testing.T) {
	l := allRealmsAndNone()
	for _, r := range noRealms() {
		for _, other := range l {
			wantBetween(t, r, other)
			wantBetween(t, other, r)
		}
	}
}

// P5.2, P5.4: of each two realms: the model's way; no realm stands twice on it,
// each is a realm and a step from the one ahead; the same, the other way round.
func TestBetweenOfEachTwo(t *testing.T) {
	l := slices.Concat(smallRealms(), longRealms())
	for _, a := range l {
		for _, b := range l {
			got := name.Between(a, b)
			if want := modelBetween(a, b); !slices.Equal(got, want) {
				t.Errorf("Between(%q, %q) is %q, not %q", a, b, got, want)
			}
			if a != b {
				wantSteps(t, slices.Concat([]string{a}, got, []string{b}))
			}
			back := name.Between(b, a)
			slices.Reverse(back)
			if !slices.Equal(got, back) {
				t.Errorf("Between(%q, %q) is %q, and the other way round %q", a, b, got, back)
			}
		}
	}
}

// wantSteps wants a way of realms, each one but once, where each is right above
// or below the one ahead, or both are tops.
func wantSteps(t *testing.T, way []string) {
	t.Helper()
	seen := map[string]bool{}
	for i, r := range way {
		if modelKind(r) == 0 || seen[r] {
			t.Errorf("%q stands on the way %q, and is no realm, or stands there twice", r, way)
		}
		seen[r] = true
		if i == 0 {
			continue
		}
		last := way[i-1]
		if tops := modelUp(r) == "" && modelUp(last) == ""; !tops && modelUp(r) != last && modelUp(last) != r {
			t.Errorf("on the way %q there is no step from %q to %q", way, last, r)
		}
	}
}

// P5.3: Krbtgt of any text.
func TestKrbtgt(t *testing.T) {
	for _, r := range slices.Concat(allRealmsAndNone(), []string{"krbtgt/", "krbtgt", strings.Repeat("x", 100000), "\xff\x00\n"}) {
		if got, want := name.Krbtgt(r), "krbtgt/"+r; got != want {
			t.Errorf("Krbtgt(%q) is %q", r, got)
		}
	}
}

// wantTarget wants that realm; of none it wants nothing, and false.
func wantTarget(t *testing.T, n, want string) {
	t.Helper()
	if got, ok := name.Target(n); got != want || ok != (want != "") {
		t.Errorf("Target(%q) is %q, %v, not %q", n, got, ok, want)
	}
}

// P5.3: Target of servers' names and of others.
func TestTarget(t *testing.T) {
	wantTarget(t, "krbtgt/EDU", "EDU")
	wantTarget(t, "krbtgt/X.A.EDU", "X.A.EDU")
	wantTarget(t, "krbtgt//COM", "/COM")
	wantTarget(t, "krbtgt//COM/HP/APOLLO", "/COM/HP/APOLLO")
	wantTarget(t, "krbtgt/KRBTGT", "KRBTGT")
	for _, r := range slices.Concat(smallRealms(), longRealms()) {
		wantTarget(t, name.Krbtgt(r), r)
	}
	for _, r := range noRealms() {
		wantTarget(t, name.Krbtgt(r), "")
	}
	for _, n := range []string{
		"", "krbtgt", "krbtgt/", "krbtgt//", "krbtgt/krbtgt/EDU", "krbtgt/krbtgt", "joe", "EDU", "/COM", "/EDU", "/krbtgt/EDU",
		"krbtgtEDU", "krbtgt.EDU", "krbtgt EDU", "krbtg/EDU", "rbtgt/EDU", "xkrbtgt/EDU", " krbtgt/EDU", "krbtgt /EDU", "krbtgt/ EDU",
		"KRBTGT/EDU", "Krbtgt/EDU", "krbtgT/EDU", "krbtgt/EDU ", "krbtgt/EDU\n", "krbtgt/edu", "krbtgt\\EDU", "krbtgt/EDU/", "krbtgt///COM",
		"krbtgs/EDU", "krbtgt/EDU@COM", "krbtgt/EDU\x00", "\x00krbtgt/EDU", "krbtgt\x00/EDU",
	} {
		wantTarget(t, n, "")
	}
	n := "krbtgt/A"
	for i := range n {
		for c := range 256 {
			turned := []byte(n)
			turned[i] = byte(c)
			wantTarget(t, string(turned), modelTarget(string(turned)))
		}
	}
}

func wantPrinc(t *testing.T, p api.Princ, want bool) {
	t.Helper()
	if got := name.IsPrinc(p); got != want {
		t.Errorf("IsPrinc(%q) is %v", p, got)
	}
}

// P5.3: names by how many bytes they have.
func TestIsPrincByCount(t *testing.T) {
	for _, c := range []string{"a", "z", "0", "9", "m", "5"} {
		for n := range api.MaxLabel + 20 {
			wantPrinc(t, api.Princ{Realm: "EDU", Name: strings.Repeat(c, n)}, n >= 1 && n <= 8)
		}
	}
}

// P5.3: each byte, at each place of a name.
func TestIsPrincOfEachByte(t *testing.T) {
	for _, n := range []string{"j", "joe", "joe4you8"} {
		for i := range n {
			for c := range 256 {
				turned := []byte(n)
				turned[i] = byte(c)
				want := strings.IndexByte("abcdefghijklmnopqrstuvwxyz0123456789", byte(c)) >= 0
				wantPrinc(t, api.Princ{Realm: "/COM/HP", Name: string(turned)}, want)
			}
		}
	}
}

// P5.3: names of all kinds, with realms and with what is none.
func TestIsPrinc(t *testing.T) {
	fit := []string{
		"a", "joe", "0", "12345678", "abcdefgh", "z9", "krbtgt", "krbtgt/A", "krbtgt/EDU", "krbtgt//COM",
		"krbtgt/ABCDEFGH.IJKLMNOP.QRSTUVWX.YZABCDEF", "krbtgt//ABCDEFGH/IJKLMNOP/QRSTUVWX/YZABCDEF",
	}
	unfit := []string{
		"", "abcdefghi", "123456789", "Joe", "JOE", "joe ", " joe", "jo e", "joe.x", "joe/x", "joe@EDU", "jo\xff", "é", "joe\n", "joe\x00",
		"EDU", "/COM", "krbtgt/", "krbtgt//", "krbtgt/a", "krbtgt/edu", "krbtgt/A.B.C.D.E", "krbtgt/ABCDEFGHI", "xkrbtgt/EDU", "KRBTGT/EDU", "krbtgt/krbtgt/EDU",
	}
	for _, r := range allRealmsAndNone() {
		for _, n := range fit {
			wantPrinc(t, api.Princ{Realm: r, Name: n}, modelKind(r) != 0)
		}
		for _, n := range unfit {
			wantPrinc(t, api.Princ{Realm: r, Name: n}, false)
		}
		for _, n := range noRealms() {
			p := api.Princ{Realm: r, Name: name.Krbtgt(n)}
			wantPrinc(t, p, false)
			p.Name = n
			wantPrinc(t, p, modelIsPrinc(p))
		}
	}
	wantPrinc(t, api.Princ{}, false)
	wantPrinc(t, api.Princ{Realm: "joe", Name: "EDU"}, false)
}

// W1: texts of any length and of any bytes end without a panic; what they are is
// what the document says of them.
func TestAnyTexts(t *testing.T) {
	rnd := rand.New(rand.NewSource(53))
	noise := make([]byte, 1<<16)
	rnd.Read(noise)
	texts := []string{string(noise), string(noise[:1000])}
	for _, s := range []string{"A", "a", ".", "/", "A.", ".A", "/A", "A/", "krbtgt/", "ABCDEFGH.", "/ABCDEFGH", "\x00", "\xff", "é", "A,B "} {
		for _, n := range []int{5, 9, 100, 1 << 18} {
			texts = append(texts, strings.Repeat(s, n))
		}
	}
	for _, s := range texts {
		wantKind(t, s, modelKind(s))
		if got := name.Up(s); got != modelUp(s) {
			t.Errorf("Up of %d bytes is %q", len(s), got)
		}
		if got := name.Canon(s); len(got) != len(s) {
			t.Errorf("Canon of %d bytes is %d bytes", len(s), len(got))
		}
		wantTarget(t, s, modelTarget(s))
		wantTarget(t, name.Krbtgt(s), modelTarget("krbtgt/"+s))
		for _, other := range []string{"EDU", "X.A.EDU", "/COM/HP", "", s} {
			if got := name.Under(s, other); got != modelUnder(s, other) {
				t.Errorf("of %d bytes Under(.., %q) is %v", len(s), other, got)
			}
			if got := name.Under(other, s); got != modelUnder(other, s) {
				t.Errorf("of %d bytes Under(%q, ..) is %v", len(s), other, got)
			}
			wantBetween(t, s, other, modelBetween(s, other)...)
			wantBetween(t, other, s, modelBetween(other, s)...)
			for _, p := range []api.Princ{{Realm: s, Name: other}, {Realm: other, Name: s}} {
				wantPrinc(t, p, modelIsPrinc(p))
			}
		}
	}
}

// share tells whether two texts have a byte of memory in common.
func share(a, b string) bool {
	if a == "" || b == "" {
		return false
	}
	p, q := uintptr(unsafe.Pointer(unsafe.StringData(a))), uintptr(unsafe.Pointer(unsafe.StringData(b)))
	return p < q+uintptr(len(b)) && q < p+uintptr(len(a))
}

// P5.4, W6: no text that is answered shares memory with one that was handed in.
func TestTextsAreNewMemory(t *testing.T) {
	for _, s := range slices.Concat(allRealmsAndNone(), []string{"krbtgt/EDU", "krbtgt//COM/HP"}) {
		// Of memory of its own, which nothing else can share by chance.
		s = strings.Clone(s)
		target, _ := name.Target(s)
		for call, got := range map[string]string{"Canon": name.Canon(s), "Up": name.Up(s), "Krbtgt": name.Krbtgt(s), "Target": target} {
			if share(got, s) {
				t.Errorf("%s(%q) is %q of the same memory", call, s, got)
			}
		}
		for _, other := range []string{"EDU", "W.X.A.EDU", "Q", "/COM", "/COM/DEC/VAX/Y"} {
			other = strings.Clone(other)
			for _, got := range slices.Concat(name.Between(s, other), name.Between(other, s)) {
				if share(got, s) || share(got, other) {
					t.Errorf("between %q and %q stands %q of the same memory", s, other, got)
				}
			}
		}
	}
}

// P5.4, W6, W7: each list that is answered is new, its spare room too: one may be
// changed, and all else stays; what is handed in stays what it is.
func TestListsAreNewMemory(t *testing.T) {
	for _, a := range []string{"W.X.A.EDU", "X.A.EDU", "A.EDU", "EDU", "/COM", "/COM/HP/APOLLO/X"} {
		for _, b := range []string{"EDU", "V.Y.A.EDU", "V.Y.B.EDU", "A.B.C.COM", "/COM", "/COM/DEC/VAX/Y"} {
			p, q := strings.Clone(a), strings.Clone(b)
			want := modelBetween(a, b)
			first, second := name.Between(p, q), name.Between(p, q)
			first = first[:cap(first)]
			for i := range first {
				first[i] = "changed"
			}
			wantBetween(t, p, q, want...)
			wantBetween(t, q, p, modelBetween(b, a)...)
			if !slices.Equal(second, want) {
				t.Errorf("behind a change of another answer Between(%q, %q) became %q", a, b, second)
			}
			if p != a || q != b {
				t.Errorf("%q and %q, which were handed in, became %q and %q", a, b, p, q)
			}
		}
	}
}

// W2: the same of the same, whatever was called before.
func TestAnswersHangOnArgumentsAlone(t *testing.T) {
	rnd := rand.New(rand.NewSource(54))
	l := slices.Concat(allRealmsAndNone(), smallRealms())
	for range 20000 {
		a, b := l[rnd.Intn(len(l))], l[rnd.Intn(len(l))]
		switch rnd.Intn(5) {
		case 0:
			wantKind(t, a, modelKind(a))
		case 1:
			wantBetween(t, a, b, modelBetween(a, b)...)
		case 2:
			if got := name.Under(a, b); got != modelUnder(a, b) {
				t.Errorf("Under(%q, %q) is %v", a, b, got)
			}
		case 3:
			wantTarget(t, name.Krbtgt(a), modelTarget("krbtgt/"+a))
		case 4:
			p := api.Princ{Realm: a, Name: name.Krbtgt(b)}
			wantPrinc(t, p, modelIsPrinc(p))
		}
	}
}
