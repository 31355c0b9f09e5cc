package transit_test

import (
	"math/rand"
	"regexp"
	"slices"
	"strings"
	"testing"
	"unsafe"

	"legate/api"
	"legate/name"
	"legate/transit"
)

// The model: each form of a subfield as a pattern, a realm as its labels (the
// top's first), and a text as all that is found in it from left to right.

var (
	belowForm   = regexp.MustCompile(`^([A-Z]{1,8}(\.[A-Z]{1,8})*)\.$`)
	slashedForm = regexp.MustCompile(`^(/[A-Z]{1,8})+$`)
	blankForm   = regexp.MustCompile(`^ ((/[A-Z]{1,8})+)$`)
	domainForm  = regexp.MustCompile(`^[A-Z]{1,8}(\.[A-Z]{1,8})*$`)
)

// modelRealm is a realm of one of the two kinds, as its labels; of none it has no
// labels.
type modelRealm struct {
	slashed bool
	labels  []string
}

func (r modelRealm) text() string {
	if r.slashed {
		return "/" + strings.Join(r.labels, "/")
	}
	l := slices.Clone(r.labels)
	slices.Reverse(l)
	return strings.Join(l, ".")
}

func slashedLabels(s string) []string { return strings.Split(s, "/")[1:] }

func domainLabels(s string) []string {
	l := strings.Split(s, ".")
	slices.Reverse(l)
	return l
}

func modelOf(r string) modelRealm {
	if r[0] == '/' {
		return modelRealm{true, slashedLabels(r)}
	}
	return modelRealm{false, domainLabels(r)}
}

// modelTold is what a subfield tells behind p, which has no labels where there is
// none.
func modelTold(sub string, p modelRealm) (modelRealm, bool) {
	var r modelRealm
	switch {
	case belowForm.MatchString(sub):
		if p.labels == nil || p.slashed {
			return r, false
		}
		r.labels = slices.Concat(p.labels, domainLabels(belowForm.FindStringSubmatch(sub)[1]))
	case slashedForm.MatchString(sub):
		r.slashed = true
		if p.slashed {
			r.labels = slices.Clone(p.labels)
		}
		r.labels = append(r.labels, slashedLabels(sub)...)
	case blankForm.MatchString(sub):
		r = modelRealm{true, slashedLabels(blankForm.FindStringSubmatch(sub)[1])}
	case domainForm.MatchString(sub):
		r.labels = domainLabels(sub)
	}
	return r, len(r.labels) >= 1 && len(r.labels) <= 4
}

// found is a realm that a text tells, or a fault.
type found struct {
	realm string
	fault bool
}

// modelFound is all that a text tells up to its first fault of form, each as
// often as it stands there.
func modelFound(s, client, server string) []found {
	if s == "" {
		return nil
	}
	var l []found
	var p modelRealm
	last, nulls := client, 0
	betweenTo := func(r string) {
		for range nulls {
			for _, b := range name.Between(last, r) {
				l = append(l, found{b, false})
			}
		}
		nulls = 0
	}
	for _, sub := range strings.Split(s, ",") {
		if sub == "" {
			nulls++
			continue
		}
		r, ok := modelTold(sub, p)
		if !ok {
			return append(l, found{"", true})
		}
		betweenTo(r.text())
		l = append(l, found{r.text(), false})
		p, last = r, r.text()
	}
	betweenTo(server)
	return l
}

func modelExpand(s, client, server string) ([]string, api.Errno) {
	if !name.Is(client) || !name.Is(server) {
		return nil, api.ErrArg
	}
	var l []string
	for _, f := range modelFound(s, client, server) {
		if f.fault {
			return nil, api.ErrForm
		}
		if !slices.Contains(l, f.realm) {
			l = append(l, f.realm)
		}
		if len(l) == 9 {
			return nil, api.ErrFull
		}
	}
	return l, api.OK
}

// modelFurther is how r is told behind p, by how many labels they share.
func modelFurther(r, p modelRealm) string {
	n := len(p.labels)
	below := r.slashed == p.slashed && len(r.labels) > n && slices.Equal(r.labels[:n], p.labels)
	switch {
	case below && r.slashed:
		return modelRealm{true, r.labels[n:]}.text()
	case below:
		return modelRealm{false, r.labels[n:]}.text() + "."
	case r.slashed:
		return " " + r.text()
	}
	return r.text()
}

func modelCompress(l []string) (string, api.Errno) {
	for _, r := range l {
		if !name.Is(r) {
			return "", api.ErrArg
		}
	}
	if len(l) >= 9 {
		return "", api.ErrFull
	}
	s := ""
	for i, r := range l {
		if i == 0 {
			s = r
		} else {
			s += "," + modelFurther(modelOf(r), modelOf(l[i-1]))
		}
	}
	return s, api.OK
}

func modelInsert(s, client, server, realm string) (string, api.Errno) {
	l, err := modelExpand(s, client, server)
	switch {
	case err != api.OK:
		return "", err
	case !name.Is(realm):
		return "", api.ErrArg
	case slices.Contains(append([]string{client, server}, l...), realm):
		return s, api.OK
	}
	return modelCompress(append(l, realm))
}

// noRealms is what is no realm, each for a reason of its own.
func noRealms() []string {
	return []string{
		"", ".", "/", " ", ",", "edu", "/com", "EDU.", ".EDU", "MIT..EDU", "/COM/", "//COM", " EDU", " /COM", "EDU ", "MIT/EDU", "/MIT.EDU",
		"EDU,COM", "A.B.C.D.E", "/A/B/C/D/E", "ABCDEFGHI", "/ABCDEFGHI", "EDU1", "EDU\n", "\x00", "\xff", "É",
	}
}

// eightRealms is as many as may be, told in all ways that there are.
func eightRealms() []string {
	return []string{"EDU", "MIT.EDU", "CS.ATHENA.MIT.EDU", "COM", "/COM", "/COM/HP", "/COM/HP/APOLLO/X", "/EDU"}
}

const eightTold = "EDU,MIT.,CS.ATHENA.,COM, /COM,/HP,/APOLLO/X, /EDU"

// allEnds is realms of both kinds and of some trees.
func allEnds() []string {
	return []string{
		"EDU", "COM", "MIT.EDU", "X.A.EDU", "W.X.A.EDU", "Y.B.COM", "/COM", "/EDU", "/COM/HP", "/COM/DEC/VAX", "/A/B/C/D",
	}
}

// allRealms is realms of both kinds, where one label ends or begins like another.
func allRealms() []string {
	l := slices.Concat(allEnds(), eightRealms(), []string{
		"A", "AA", "A.A", "AA.A", "A.AA", "A.A.A", "A.A.A.A", "B.A", "/A", "/AA", "/A/A", "/A/AA", "/AA/A", "/A/A/A", "/A/A/A/A", "/A/B",
		"ABCDEFGH", "ABCDEFGH.IJKLMNOP.QRSTUVWX.YZABCDEF", "IJKLMNOP.QRSTUVWX.YZABCDEF", "/ABCDEFGH", "/ABCDEFGH/IJKLMNOP/QRSTUVWX/YZABCDEF",
	})
	slices.Sort(l)
	return slices.Compact(l)
}

func wantCompress(t *testing.T, want string, l ...string) {
	t.Helper()
	if got, err := transit.Compress(l); got != want || err != api.OK {
		t.Errorf("Compress(%q) is %q, %d, not %q", l, got, err, want)
	}
}

func wantCompressErr(t *testing.T, want api.Errno, l ...string) {
	t.Helper()
	if got, err := transit.Compress(l); got != "" || err != want {
		t.Errorf("Compress(%q) is %q, %d, not error %d", l, got, err, want)
	}
}

func wantExpand(t *testing.T, s, client, server string, want ...string) {
	t.Helper()
	if got, err := transit.Expand(s, client, server); !slices.Equal(got, want) || err != api.OK {
		t.Errorf("Expand(%.100q, %q, %q) is %q, %d, not %q", s, client, server, got, err, want)
	}
}

func wantExpandErr(t *testing.T, s, client, server string, want api.Errno) {
	t.Helper()
	if got, err := transit.Expand(s, client, server); len(got) != 0 || err != want {
		t.Errorf("Expand(%.100q, %.100q, %.100q) is %q, %d, not error %d", s, client, server, got, err, want)
	}
}

func wantInsert(t *testing.T, s, client, server, realm, want string) {
	t.Helper()
	if got, err := transit.Insert(s, client, server, realm); got != want || err != api.OK {
		t.Errorf("Insert(%q, %q, %q, %q) is %q, %d, not %q", s, client, server, realm, got, err, want)
	}
}

func wantInsertErr(t *testing.T, s, client, server, realm string, want api.Errno) {
	t.Helper()
	if got, err := transit.Insert(s, client, server, realm); got != "" || err != want {
		t.Errorf("Insert(%.100q, %.100q, %.100q, %.100q) is %.100q, %d, not error %d", s, client, server, realm, got, err, want)
	}
}

// wantModelExpand wants what the model says.
func wantModelExpand(t *testing.T, s, client, server string) {
	t.Helper()
	if want, err := modelExpand(s, client, server); err != api.OK {
		wantExpandErr(t, s, client, server, err)
	} else {
		wantExpand(t, s, client, server, want...)
	}
}

// wantModelInsert wants what the model says.
func wantModelInsert(t *testing.T, s, client, server, realm string) {
	t.Helper()
	want, wantErr := modelInsert(s, client, server, realm)
	if got, err := transit.Insert(s, client, server, realm); got != want || err != wantErr {
		t.Errorf("Insert(%.100q, %q, %q, %.100q) is %.100q, %d, not %.100q, %d", s, client, server, realm, got, err, want, wantErr)
	}
}

// P6.1, P6.2: the chapter's examples, either way.
func TestExamples(t *testing.T) {
	for s, l := range map[string]string{
		"EDU,MIT.,ATHENA.,WASH.EDU,CS.": "EDU MIT.EDU ATHENA.MIT.EDU WASH.EDU CS.WASH.EDU",
		"/COM,/HP,/APOLLO, /COM/DEC":    "/COM /COM/HP /COM/HP/APOLLO /COM/DEC",
	} {
		realms := strings.Fields(l)
		wantCompress(t, s, realms...)
		for _, end := range allEnds() {
			wantExpand(t, s, end, "X.A.EDU", realms...)
			wantExpand(t, s, "/COM/HP", end, realms...)
		}
	}
}

// P6.1: rows of so many realms.
func TestCompressByCount(t *testing.T) {
	wantCompress(t, "")
	if s, err := transit.Compress([]string{}); s != "" || err != api.OK {
		t.Errorf("Compress of no realm is %q, %d", s, err)
	}
	for _, r := range allRealms() {
		wantCompress(t, r, r)
	}
	wantCompress(t, eightTold, eightRealms()...)
	wantCompress(t, "A,A,A,A,A,A,A,A", slices.Repeat([]string{"A"}, 8)...)
	wantCompress(t, "/A, /A, /A, /A, /A, /A, /A, /A", slices.Repeat([]string{"/A"}, 8)...)
	wantCompressErr(t, api.ErrFull, append(eightRealms(), "NET")...)
	wantCompressErr(t, api.ErrFull, append(eightRealms(), "EDU")...)
	for _, n := range []int{9, 10, 100, 1 << 16} {
		wantCompressErr(t, api.ErrFull, slices.Repeat([]string{"A"}, n)...)
	}
}

// P6.1: what a further one is told as, behind the one ahead.
func TestCompressFurther(t *testing.T) {
	for _, w := range []struct{ ahead, r, told string }{
		// Below by one label, by two, by three.
		{"EDU", "MIT.EDU", "MIT."},
		{"EDU", "ATHENA.MIT.EDU", "ATHENA.MIT."},
		{"EDU", "CS.ATHENA.MIT.EDU", "CS.ATHENA.MIT."},
		{"MIT.EDU", "ATHENA.MIT.EDU", "ATHENA."},
		{"MIT.EDU", "CS.ATHENA.MIT.EDU", "CS.ATHENA."},
		{"A", "A.A", "A."},
		{"A", "A.A.A", "A.A."},
		{"A.A", "A.A.A.A", "A.A."},
		{"/COM", "/COM/HP", "/HP"},
		{"/COM", "/COM/HP/APOLLO", "/HP/APOLLO"},
		{"/COM", "/COM/HP/APOLLO/X", "/HP/APOLLO/X"},
		{"/COM/HP", "/COM/HP/APOLLO/X", "/APOLLO/X"},
		{"/A", "/A/A", "/A"},
		{"/A", "/A/A/A", "/A/A"},
		// Above, the same one, beside.
		{"MIT.EDU", "EDU", "EDU"},
		{"CS.ATHENA.MIT.EDU", "MIT.EDU", "MIT.EDU"},
		{"MIT.EDU", "MIT.EDU", "MIT.EDU"},
		{"MIT.EDU", "WASH.EDU", "WASH.EDU"},
		{"/COM/HP", "/COM", " /COM"},
		{"/COM/HP/APOLLO", "/COM", " /COM"},
		{"/COM/HP", "/COM/HP", " /COM/HP"},
		{"/COM/HP", "/COM/DEC", " /COM/DEC"},
		// Of another tree, or like one below.
		{"EDU", "COM", "COM"},
		{"EDU", "MIT.COM", "MIT.COM"},
		{"MIT.EDU", "MIT.EDU.COM", "MIT.EDU.COM"},
		{"MIT.EDU", "XMIT.EDU", "XMIT.EDU"},
		{"EDU", "MIT.XEDU", "MIT.XEDU"},
		{"/COM", "/EDU", " /EDU"},
		{"/COM", "/EDU/MIT", " /EDU/MIT"},
		{"/COM", "/COMX", " /COMX"},
		{"/COM/HP", "/COM/HPX", " /COM/HPX"},
		{"/HP", "/COM/HP", " /COM/HP"},
		// Of the other kind.
		{"COM", "/COM", " /COM"},
		{"COM", "/COM/HP", " /COM/HP"},
		{"HP.COM", "/COM/HP", " /COM/HP"},
		{"/COM", "COM", "COM"},
		{"/COM", "HP.COM", "HP.COM"},
		{"/COM/HP", "HP.COM", "HP.COM"},
	} {
		wantCompress(t, w.ahead+","+w.told, w.ahead, w.r)
		wantCompress(t, "NET,"+modelFurther(modelOf(w.ahead), modelOf("NET"))+","+w.told, "NET", w.ahead, w.r)
	}
}

// P6.1: a further one goes by the one ahead alone, not by one that stood there
// before.
func TestCompressGoesByTheOneAhead(t *testing.T) {
	wantCompress(t, "EDU,COM,MIT.EDU", "EDU", "COM", "MIT.EDU")
	wantCompress(t, "EDU,MIT.,WASH.EDU,ATHENA.MIT.EDU", "EDU", "MIT.EDU", "WASH.EDU", "ATHENA.MIT.EDU")
	wantCompress(t, "/COM, /EDU, /COM/HP", "/COM", "/EDU", "/COM/HP")
	wantCompress(t, "EDU, /COM,MIT.EDU, /COM/HP", "EDU", "/COM", "MIT.EDU", "/COM/HP")
	wantCompress(t, "MIT.EDU,EDU,MIT.,EDU", "MIT.EDU", "EDU", "MIT.EDU", "EDU")
}

// P6.1: each two and each three realms.
func TestCompressOfEachFew(t *testing.T) {
	all := allRealms()
	for _, a := range all {
		for _, b := range all {
			for _, l := range [][]string{{a, b}, {a, b, a}, {a, b, "A.A.A"}, {"/A", a, b}} {
				want, _ := modelCompress(l)
				wantCompress(t, want, l...)
			}
		}
	}
}

// P6.1: one that is no realm, wherever it stands; it is told ahead of too many.
func TestCompressOfNoRealm(t *testing.T) {
	for _, none := range noRealms() {
		wantCompressErr(t, api.ErrArg, none)
		wantCompressErr(t, api.ErrArg, none, none)
		for i := range 9 {
			wantCompressErr(t, api.ErrArg, slices.Insert(eightRealms(), i, none)...)
			l := eightRealms()
			l[i%8] = none
			wantCompressErr(t, api.ErrArg, l...)
			wantCompressErr(t, api.ErrArg, slices.Insert([]string{"EDU", "/COM"}, i%3, none)...)
		}
		for i := range 21 {
			wantCompressErr(t, api.ErrArg, slices.Insert(slices.Repeat([]string{"EDU"}, 20), i, none)...)
		}
	}
}

// P6.2: no text tells no realm, whatever the ends are.
func TestExpandOfNoText(t *testing.T) {
	for _, client := range allEnds() {
		for _, server := range allEnds() {
			wantExpand(t, "", client, server)
		}
	}
}

// P6.2: what is written down: each form by itself and behind others.
func TestExpand(t *testing.T) {
	for _, w := range []struct{ s, want string }{
		// As it is.
		{"EDU", "EDU"},
		{"MIT.EDU", "MIT.EDU"},
		{"A.B.C.D", "A.B.C.D"},
		{"EDU,COM", "EDU COM"},
		{"EDU,MIT", "EDU MIT"},
		{"/COM,EDU", "/COM EDU"},
		{"/COM,HP.COM", "/COM HP.COM"},
		// With a sign at its end.
		{"EDU,MIT.", "EDU MIT.EDU"},
		{"EDU,ATHENA.MIT.", "EDU ATHENA.MIT.EDU"},
		{"EDU,CS.ATHENA.MIT.", "EDU CS.ATHENA.MIT.EDU"},
		{"MIT.EDU,CS.ATHENA.", "MIT.EDU CS.ATHENA.MIT.EDU"},
		{"A,A.,A.,A.", "A A.A A.A.A A.A.A.A"},
		{"EDU,MIT.,COM,MIT.", "EDU MIT.EDU COM MIT.COM"},
		// With a sign at its beginning.
		{"/COM", "/COM"},
		{"/COM/HP", "/COM/HP"},
		{"/COM,/HP", "/COM /COM/HP"},
		{"/COM,/HP/APOLLO", "/COM /COM/HP/APOLLO"},
		{"/COM/HP,/APOLLO/X", "/COM/HP /COM/HP/APOLLO/X"},
		{"/A,/A,/A,/A", "/A /A/A /A/A/A /A/A/A/A"},
		{"EDU,/COM", "EDU /COM"},
		{"EDU,/COM,/HP", "EDU /COM /COM/HP"},
		{"MIT.EDU,/A/B/C/D", "MIT.EDU /A/B/C/D"},
		{"/COM,EDU,/HP", "/COM EDU /HP"},
		// With a blank at its beginning.
		{" /COM", "/COM"},
		{" /COM/HP/APOLLO/X", "/COM/HP/APOLLO/X"},
		{"/COM, /EDU", "/COM /EDU"},
		{"/COM, /COM/HP", "/COM /COM/HP"},
		{"/COM, /HP", "/COM /HP"},
		{"EDU, /COM", "EDU /COM"},
		{" /COM,/HP", "/COM /COM/HP"},
		{" /COM, /COM,/HP", "/COM /COM/HP"},
		{" /COM,EDU,MIT.", "/COM EDU MIT.EDU"},
		// One that is told twice.
		{"EDU,EDU", "EDU"},
		{"EDU,EDU,MIT.", "EDU MIT.EDU"},
		{"EDU,MIT.,MIT.EDU,EDU,COM", "EDU MIT.EDU COM"},
		{"MIT.EDU,EDU,MIT.,ATHENA.", "MIT.EDU EDU ATHENA.MIT.EDU"},
		{"/COM,/HP, /COM,/HP,/APOLLO", "/COM /COM/HP /COM/HP/APOLLO"},
		{"EDU, /COM,EDU, /COM,/HP", "EDU /COM /COM/HP"},
	} {
		for _, end := range allEnds() {
			wantExpand(t, w.s, end, "W.X.A.EDU", strings.Fields(w.want)...)
			wantExpand(t, w.s, "/A/B/C/D", end, strings.Fields(w.want)...)
		}
	}
}

// written is a text with its ends, and the realms that it tells.
type written struct{ s, client, server, want string }

func wantWritten(t *testing.T, l []written) {
	t.Helper()
	for _, w := range l {
		wantExpand(t, w.s, w.client, w.server, strings.Fields(w.want)...)
	}
}

// P6.2: null ones alone, at the beginning, at the end.
func TestExpandOfNullsAtAnEnd(t *testing.T) {
	wantWritten(t, []written{
		// Alone: from the client to the server.
		{",", "X.A.EDU", "Y.B.EDU", "A.EDU EDU B.EDU"},
		{",", "Y.B.EDU", "X.A.EDU", "B.EDU EDU A.EDU"},
		{",", "X.COM", "EDU", "COM"},
		{",", "EDU", "EDU", ""},
		{",", "X.A.EDU", "X.A.EDU", ""},
		{",", "COM", "EDU", ""},
		{",", "A.EDU", "EDU", ""},
		{",", "HP.COM", "/EDU/MIT", "COM /EDU"},
		{",", "/EDU/MIT", "HP.COM", "/EDU COM"},
		{",", "/COM/HP/APOLLO", "/COM/DEC", "/COM/HP /COM"},
		{",,", "X.A.EDU", "Y.B.EDU", "A.EDU EDU B.EDU"},
		{",,,,,,,,,,,,", "X.A.EDU", "Y.B.EDU", "A.EDU EDU B.EDU"},
		// At the beginning: from the client to the first one.
		{",EDU", "X.A.EDU", "COM", "A.EDU EDU"},
		{",,EDU", "X.A.EDU", "COM", "A.EDU EDU"},
		{",,,,,EDU", "X.A.EDU", "COM", "A.EDU EDU"},
		{",EDU", "/COM/HP", "COM", "/COM EDU"},
		{",/COM", "X.A.EDU", "COM", "A.EDU EDU /COM"},
		{", /COM", "X.A.EDU", "COM", "A.EDU EDU /COM"},
		{", /COM/HP", "/COM/DEC/VAX", "COM", "/COM/DEC /COM /COM/HP"},
		{",/COM/HP", "/COM/DEC/VAX", "COM", "/COM/DEC /COM /COM/HP"},
		{",EDU", "EDU", "COM", "EDU"},
		{",MIT.EDU", "EDU", "COM", "MIT.EDU"},
		{",EDU,MIT.", "X.A.EDU", "COM", "A.EDU EDU MIT.EDU"},
		{",/COM,/HP", "X.A.EDU", "COM", "A.EDU EDU /COM /COM/HP"},
		// At the end: from the last one to the server.
		{"EDU,", "COM", "X.A.EDU", "EDU A.EDU"},
		{"EDU,,", "COM", "X.A.EDU", "EDU A.EDU"},
		{"EDU,,,,,", "COM", "X.A.EDU", "EDU A.EDU"},
		{"EDU,", "COM", "/COM/HP", "EDU /COM"},
		{"/COM,", "COM", "X.A.EDU", "/COM EDU A.EDU"},
		{" /COM,", "COM", "/COM/HP/APOLLO", "/COM /COM/HP"},
		{"EDU,", "COM", "EDU", "EDU"},
		{"EDU,", "COM", "MIT.EDU", "EDU"},
		{"EDU,MIT.,", "COM", "Y.B.EDU", "EDU MIT.EDU B.EDU"},
		{"EDU,COM,", "EDU", "X.HP.COM", "EDU COM HP.COM"},
	})
}

// P6.2: null ones between two, and what they tell.
func TestExpandOfNullsBetween(t *testing.T) {
	wantWritten(t, []written{
		// Between two: of one tree, of two trees, of two kinds, of one realm.
		{"X.A.EDU,,Y.B.EDU", "COM", "COM", "X.A.EDU A.EDU EDU B.EDU Y.B.EDU"},
		{"X.A.EDU,,,Y.B.EDU", "COM", "COM", "X.A.EDU A.EDU EDU B.EDU Y.B.EDU"},
		{"X.A.EDU,,,,,,,Y.B.EDU", "COM", "COM", "X.A.EDU A.EDU EDU B.EDU Y.B.EDU"},
		{"EDU,,CS.ATHENA.MIT.", "COM", "COM", "EDU MIT.EDU ATHENA.MIT.EDU CS.ATHENA.MIT.EDU"},
		{"/COM,,/HP/APOLLO/X", "COM", "COM", "/COM /COM/HP /COM/HP/APOLLO /COM/HP/APOLLO/X"},
		{"/COM/HP,, /COM/DEC", "COM", "COM", "/COM/HP /COM /COM/DEC"},
		{"X.A.EDU,,Y.B.COM", "NET", "NET", "X.A.EDU A.EDU EDU COM B.COM Y.B.COM"},
		{"/COM/HP,, /EDU/MIT", "NET", "NET", "/COM/HP /COM /EDU /EDU/MIT"},
		{"HP.COM,,/EDU/MIT", "NET", "NET", "HP.COM COM /EDU /EDU/MIT"},
		{"HP.COM,, /EDU/MIT", "NET", "NET", "HP.COM COM /EDU /EDU/MIT"},
		{"/EDU/MIT,,HP.COM", "NET", "NET", "/EDU/MIT /EDU COM HP.COM"},
		{"EDU,,EDU", "COM", "X.NET", "EDU"},
		{"MIT.EDU,,MIT.EDU", "COM", "X.NET", "MIT.EDU"},
		{"/COM,, /COM", "COM", "X.NET", "/COM"},
		{"EDU,,COM", "X.NET", "X.NET", "EDU COM"},
		{"EDU,,MIT.", "X.NET", "X.NET", "EDU MIT.EDU"},
		{"EDU,,MIT.,,COM", "X.NET", "X.NET", "EDU MIT.EDU COM"},
		// At all three places.
		{",MIT.EDU,,HP.COM,", "X.A.EDU", "Y.NET", "A.EDU EDU MIT.EDU COM HP.COM NET"},
		{",EDU,,COM,", "EDU", "COM", "EDU COM"},
		// What stands behind a null one goes by the one ahead of that.
		{"EDU,,MIT.", "/COM", "/COM", "EDU MIT.EDU"},
		{"X.A.EDU,,Y.B.EDU,Z.", "COM", "COM", "X.A.EDU A.EDU EDU B.EDU Y.B.EDU Z.Y.B.EDU"},
		{"/COM,,/HP,,/APOLLO", "COM", "COM", "/COM /COM/HP /COM/HP/APOLLO"},
		// An end that is told, by itself or by a null one.
		{"EDU", "EDU", "EDU", "EDU"},
		{"EDU,COM", "EDU", "COM", "EDU COM"},
		{"COM,EDU", "EDU", "COM", "COM EDU"},
		{"X.EDU,,Y.EDU", "EDU", "COM", "X.EDU EDU Y.EDU"},
		{"X.EDU,,Y.EDU", "COM", "EDU", "X.EDU EDU Y.EDU"},
		{"X.A.EDU,", "A.EDU", "EDU", "X.A.EDU A.EDU"},
		{",X.A.EDU", "EDU", "A.EDU", "A.EDU X.A.EDU"},
		// What a null one tells stands but once, where it stands first.
		{"EDU,X.A.,,EDU,COM", "NET", "NET", "EDU X.A.EDU A.EDU COM"},
		{"A.EDU,X.A.EDU,,Y.B.EDU", "NET", "NET", "A.EDU X.A.EDU EDU B.EDU Y.B.EDU"},
		{"X.EDU,,Y.EDU,,Z.EDU", "NET", "NET", "X.EDU EDU Y.EDU Z.EDU"},
		{"X.EDU,,Y.EDU,EDU", "NET", "NET", "X.EDU EDU Y.EDU"},
	})
}

// P6.2: texts with a fault of form, with no P, with a P of either kind, and
// behind null ones.
func TestExpandErrForm(t *testing.T) {
	for _, s := range []string{
		// A sign at its end without a P.
		"MIT.", ",MIT.", ",,MIT.", "MIT.,EDU", "A.B.C.",
		// A blank ahead of what begins with no sign.
		" ", " EDU", " MIT.EDU", "  /COM", " HP", "EDU, COM", "/COM, HP", "/COM,  /HP", "EDU, ", "/COM, ", "EDU, MIT.", " EDU.", "\t/COM", "\u00a0/COM",
		// A blank at its end.
		"EDU ", "/COM ", "EDU ,COM", "/COM /HP", "EDU,MIT. ",
		// No realm as it is.
		"edu", "EDU1", "MIT..EDU", ".EDU", "ABCDEFGHI", "A.B.C.D.E", "MIT/EDU", "EDU/", "EDU,mit", "/COM,hp", "É", "\x00", "\xff", "EDU\n", "EDU;COM",
		"EDU,.MIT", "EDU,MIT..EDU", "/COM,HP/APOLLO", "/COM,HP/",
		// What is made of a sign at its end.
		".", "EDU,.", "EDU,..", "EDU,MIT..", "EDU,.MIT.", "EDU,mit.", "EDU,ABCDEFGHI.", "EDU,A.B.C.D.", "B.C.D,E.A.", "A.B.C.D,E.",
		"/COM,.", "/COM,HP.", "/COM/HP,A.", " /COM,HP.", "EDU,/COM,HP.", "EDU,/MIT.", "EDU, /MIT.", "EDU,A/B.", "/COM,/HP.", "/.", " /.",
		// What is made of a sign at its beginning.
		"/", "//", "//COM", "/COM/", "/com", "/COM1", "/ABCDEFGHI", "/A/B/C/D/E", "/MIT.EDU", "/ COM", "/COM//HP",
		"/COM,/", "/COM,//HP", "/COM,/HP/", "/COM,/hp", "/COM,/ABCDEFGHI", "/A/B,/C/D/E", "/A/B/C/D,/E", "/A,/B/C/D/E", "EDU,/", "EDU,//COM", "EDU,/A/B/C/D/E", "EDU,/COM/",
		// What is made of a blank.
		" /", " //COM", " /COM/", " /com", " /ABCDEFGHI", " /A/B/C/D/E", "EDU, /", "/COM, /", "/COM, /A/B/C/D/E", " /MIT.EDU",
	} {
		for _, end := range []string{"EDU", "X.A.EDU", "/COM", "/COM/DEC/VAX"} {
			wantExpandErr(t, s, end, "X.A.EDU", api.ErrForm)
			wantExpandErr(t, s, "/COM", end, api.ErrForm)
			wantExpandErr(t, ","+s, end, "X.A.EDU", api.ErrForm)
			wantExpandErr(t, ",,,"+s, end, "X.A.EDU", api.ErrForm)
			wantExpandErr(t, s+",", end, "X.A.EDU", api.ErrForm)
			wantExpandErr(t, s+",EDU", end, "X.A.EDU", api.ErrForm)
			wantExpandErr(t, s+",,COM", end, "X.A.EDU", api.ErrForm)
		}
		// With a null one between the last two.
		if i := strings.LastIndex(s, ","); i >= 0 {
			wantExpandErr(t, s[:i]+","+s[i:], "EDU", "EDU", api.ErrForm)
			wantExpandErr(t, s[:i]+",,"+s[i:], "X.A.EDU", "/COM/HP", api.ErrForm)
		}
	}
}

// P6.2: neither an end nor a null one's realms are a P.
func TestExpandWithoutP(t *testing.T) {
	wantExpandErr(t, "MIT.", "EDU", "EDU", api.ErrForm)
	wantExpandErr(t, ",MIT.", "X.A.EDU", "EDU", api.ErrForm)
	wantExpandErr(t, ",,MIT.", "X.A.EDU", "Y.B.EDU", api.ErrForm)
	wantExpand(t, "/HP", "/COM", "/COM", "/HP")
	wantExpand(t, ",/HP", "/COM", "/COM", "/HP")
	wantExpand(t, ",/HP", "/COM/DEC", "/COM", "/COM", "/HP")
}

// P6.2: a client or a server that is no realm is told ahead of all else.
func TestExpandOfEndsThatAreNone(t *testing.T) {
	for _, none := range noRealms() {
		for _, s := range []string{"", ",", "EDU", "EDU,MIT.", "MIT.", "edu", " EDU", eightTold, eightTold + ",NET", eightTold + ",NET,edu", none} {
			wantExpandErr(t, s, none, "EDU", api.ErrArg)
			wantExpandErr(t, s, "/COM", none, api.ErrArg)
			wantExpandErr(t, s, none, none, api.ErrArg)
		}
	}
}

// P6.2: as many realms as may be, and one more; one that is told twice counts
// once.
func TestExpandByCount(t *testing.T) {
	wantExpand(t, eightTold, "EDU", "EDU", eightRealms()...)
	for _, s := range []string{"A,B,C,D,E,F,G,H", "/A, /B, /C, /D, /E, /F, /G, /H", "A,B,C,D,A,B,C,D,A,E,F,G,H,H,G,F,E", "A,B,C,D,,E,,F,,,G,H"} {
		l, err := transit.Expand(s, "A", "A")
		if len(l) != 8 || err != api.OK {
			t.Errorf("Expand(%q) is %q, %d", s, l, err)
		}
	}
	for _, again := range []string{"EDU", "MIT.EDU", "COM", " /COM", " /COM,/HP", " /EDU", "EDU,MIT.,EDU,MIT.", ",EDU", ",,"} {
		wantExpand(t, eightTold+","+again, "EDU", "EDU", eightRealms()...)
	}
	for _, more := range []string{"NET", "MIT.NET", " /NET", "/NET", "EDU,X.", "EDU,NET", " /COM,/X", ",NET"} {
		wantExpandErr(t, eightTold+","+more, "EDU", "EDU", api.ErrFull)
	}
	wantExpandErr(t, "A,B,C,D,E,F,G,H,I", "A", "A", api.ErrFull)
	wantExpandErr(t, "/A, /B, /C, /D, /E, /F, /G, /H, /I", "A", "A", api.ErrFull)
	wantExpandErr(t, "A,B,C,D,A,B,C,D,E,F,G,H,I,A", "A", "A", api.ErrFull)
}

// P6.2: as many as may be, and one more, by null ones: at the beginning, between
// two, at the end.
func TestExpandByCountOfNulls(t *testing.T) {
	// Six stand between these.
	const a, b = "A.B.C.D", "/E/F/G/H"
	six := strings.Fields("B.C.D C.D D /E /E/F /E/F/G")
	wantExpand(t, ",", a, b, six...)
	wantExpand(t, ","+b, a, "X", append(slices.Clone(six), b)...)
	wantExpand(t, a+",", "X", b, append([]string{a}, six...)...)
	wantExpand(t, a+",,"+b, "X", "Y", slices.Concat([]string{a}, six, []string{b})...)
	wantExpand(t, a+",,"+b+",", "X", "D", slices.Concat([]string{a}, six, []string{b})...)
	wantExpand(t, ","+b+",X", a, "Y", append(slices.Clone(six), b, "X")...)
	wantExpand(t, "X,"+a+",", "Y", b, append([]string{"X", a}, six...)...)

	wantExpandErr(t, "X,"+a+",,"+b, "X", "Y", api.ErrFull)
	wantExpandErr(t, a+",,"+b+",X", "X", "Y", api.ErrFull)
	wantExpandErr(t, a+",,"+b+",", "X", "Y.Z", api.ErrFull)
	wantExpandErr(t, ","+b+",X,Y", a, "Y", api.ErrFull)
	wantExpandErr(t, "X,Y,"+a+",", "Y", b, api.ErrFull)
	wantExpandErr(t, "P,Q,R,S,T,U,V,W,", "X", "Y.Z", api.ErrFull)
	wantExpandErr(t, ",P,Q,R,S,T,U,V,W", "Y.Z", "X", api.ErrFull)
	// Those that are there already count once.
	wantExpand(t, "D,C.,B.,A.,,"+b, "X", "Y", "D", "C.D", "B.C.D", a, "/E", "/E/F", "/E/F/G", b)
	wantExpandErr(t, "X,D,C.,B.,A.,,"+b, "X", "Y", api.ErrFull)
}

// P6.2: of two errors the first from left to right; the check of a realm comes
// ahead of what a null one ahead of it tells.
func TestExpandFirstError(t *testing.T) {
	full := eightTold + ",NET"
	for _, fault := range []string{"edu", "MIT..", " EDU", "/", ".", "/A/B/C/D/E", "EDU "} {
		wantExpandErr(t, full+","+fault, "EDU", "EDU", api.ErrFull)
		wantExpandErr(t, full+",,"+fault, "EDU", "EDU", api.ErrFull)
		wantExpandErr(t, full+",EDU,,"+fault, "EDU", "EDU", api.ErrFull)
		wantExpandErr(t, eightTold+","+fault, "EDU", "EDU", api.ErrForm)
		wantExpandErr(t, eightTold+","+fault+",NET", "EDU", "EDU", api.ErrForm)
		wantExpandErr(t, fault+","+full, "EDU", "EDU", api.ErrForm)
		// Seven and a null one that tells some more.
		const seven = "P,Q,R,S,T,U,X.V.W"
		wantExpandErr(t, seven+",,A.B,"+fault, "EDU", "EDU", api.ErrFull)
		wantExpandErr(t, seven+",,"+fault, "EDU", "A.B", api.ErrForm)
		wantExpandErr(t, seven+",,,,"+fault, "EDU", "A.B", api.ErrForm)
		wantExpandErr(t, seven+",,"+fault+",,A.B", "EDU", "A.B", api.ErrForm)
		wantExpandErr(t, seven+",,W,"+fault, "EDU", "EDU", api.ErrFull)
		wantExpandErr(t, seven+",V.W,,"+fault, "EDU", "EDU", api.ErrForm)
		wantExpandErr(t, seven+",V.W,,Z,"+fault, "EDU", "EDU", api.ErrFull)
	}
	wantExpandErr(t, "P,Q,R,S,T,U,X.V.W,", "EDU", "A.B", api.ErrFull)
}

// allSubfields is subfields of each form, of realms and of what is none.
func allSubfields() []string {
	return []string{
		"", "A", "B.A", "C.B.A", "A.", "B.", "C.B.", "/A", "/B", "/B/C", " /A", " /A/B", ".", "/", " ", " A", " A.", " /", "/A.", "a", "/a", "A/B", "A.B.C.D.", "/A/B/C/D",
	}
}

// P6.2: each form of subfield as the first one and behind each other.
func TestExpandOfEachFewSubfields(t *testing.T) {
	subs := allSubfields()
	for _, a := range subs {
		wantModelExpand(t, a, "W.X.A", "/A/B/C")
		for _, b := range subs {
			wantModelExpand(t, a+","+b, "W.X.A", "/A/B/C")
			wantModelExpand(t, a+","+b, "/A/B/C", "W.X.A")
			for _, c := range subs {
				wantModelExpand(t, a+","+b+","+c, "W.X.A", "Y.A")
				wantModelExpand(t, a+","+b+","+c, "/A/Z", "B")
				for _, d := range subs {
					wantModelExpand(t, a+","+b+","+c+","+d, "X.B.A", "/B/A/X")
				}
			}
		}
	}
}

// eachText visits all texts of these bytes that are at most so long.
func eachText(alphabet string, longest int, visit func(string)) {
	var row []byte
	var further func()
	further = func() {
		visit(string(row))
		if len(row) == longest {
			return
		}
		for i := range len(alphabet) {
			row = append(row, alphabet[i])
			further()
			row = row[:len(row)-1]
		}
	}
	further()
}

// P6.2: all short texts of the bytes that mean something.
func TestExpandOfAllShortTexts(t *testing.T) {
	eachText("A./, ", 7, func(s string) { wantModelExpand(t, s, "X.A", "/A/X/A") })
	eachText("AB./,", 6, func(s string) { wantModelExpand(t, s, "/B/A/X", "X.B.A") })
}

// P6.2: each byte there is, at each place of a text.
func TestExpandOfEachByte(t *testing.T) {
	for _, s := range []string{"B.A,C.,,D,/E,/F, /G,", "/A,/B, /A/C,,A,B."} {
		for i := range len(s) + 1 {
			for c := range 256 {
				wantModelExpand(t, s[:i]+string([]byte{byte(c)})+s[i:], "X.A", "/A/Y")
				if i < len(s) {
					wantModelExpand(t, s[:i]+string([]byte{byte(c)})+s[i+1:], "X.A", "/A/Y")
				}
			}
		}
	}
}

// randomText is a text of some subfields, most of them of a realm's form.
func randomText(r *rand.Rand) string {
	subs := slices.Concat(allSubfields()[:12], allSubfields()[:12], allRealms(), noRealms()[:3])
	l := make([]string, r.Intn(12))
	for i := range l {
		l[i] = subs[r.Intn(len(subs))]
		if name.Kind(l[i]) == 2 && r.Intn(2) == 0 {
			l[i] = " " + l[i]
		}
	}
	return strings.Join(l, ",")
}

// P6.2, P6.3, W2: longer texts with any ends, whatever was asked before.
func TestRandomTexts(t *testing.T) {
	r := rand.New(rand.NewSource(61))
	ends := allRealms()
	realms := slices.Concat(allRealms(), noRealms())
	for range 60000 {
		s, client, server := randomText(r), ends[r.Intn(len(ends))], ends[r.Intn(len(ends))]
		wantModelExpand(t, s, client, server)
		wantModelInsert(t, s, client, server, realms[r.Intn(len(realms))])
	}
}

// P6.3: into texts that were written down.
func TestInsert(t *testing.T) {
	for _, w := range []struct{ s, realm, want string }{
		// A new one.
		{"", "EDU", "EDU"},
		{"", "/COM", "/COM"},
		{"", "A.B.C.D", "A.B.C.D"},
		{"EDU", "MIT.EDU", "EDU,MIT."},
		{"EDU", "ATHENA.MIT.EDU", "EDU,ATHENA.MIT."},
		{"EDU,MIT.", "WASH.EDU", "EDU,MIT.,WASH.EDU"},
		{"EDU,MIT.", "ATHENA.MIT.EDU", "EDU,MIT.,ATHENA."},
		{"EDU", "COM", "EDU,COM"},
		{"EDU", "/COM", "EDU, /COM"},
		{"EDU,/COM", "/COM/HP", "EDU, /COM,/HP"},
		{"/COM", "/COM/HP", "/COM,/HP"},
		{"/COM", "/EDU", "/COM, /EDU"},
		{"/COM", "EDU", "/COM,EDU"},
		{"MIT.EDU", "EDU", "MIT.EDU,EDU"},
		// What was told in another form is told in its own one.
		{" /COM", "/COM/HP", "/COM,/HP"},
		{"EDU,MIT.EDU", "COM", "EDU,MIT.,COM"},
		{"EDU,EDU,EDU", "COM", "EDU,COM"},
		{"/COM, /COM/HP", "EDU", "/COM,/HP,EDU"},
		// A null one's realms are told.
		{",", "NET", "A.EDU,EDU, /COM,NET"},
		{",,", "/COM/HP/APOLLO", "A.EDU,EDU, /COM,/HP/APOLLO"},
		{"MIT.EDU,", "NET", "MIT.EDU,EDU, /COM,NET"},
		// The client, the server, one that is there already: the text as it is.
		{"", "X.A.EDU", ""},
		{"", "/COM/DEC", ""},
		{"EDU,MIT.", "X.A.EDU", "EDU,MIT."},
		{"EDU,MIT.", "/COM/DEC", "EDU,MIT."},
		{"EDU,MIT.", "EDU", "EDU,MIT."},
		{"EDU,MIT.", "MIT.EDU", "EDU,MIT."},
		{"EDU,MIT.EDU", "MIT.EDU", "EDU,MIT.EDU"},
		{" /COM", "/COM", " /COM"},
		{"EDU,EDU", "EDU", "EDU,EDU"},
		{",", "EDU", ","},
		{",,,", "X.A.EDU", ",,,"},
		{",,,", "/COM/DEC", ",,,"},
		{"NET,", "/COM", "NET,"},
		{",NET", "A.EDU", ",NET"},
		{"X.A.EDU,", "X.A.EDU", "X.A.EDU,"},
		{eightTold, "EDU", eightTold},
		{eightTold, "/EDU", eightTold},
		{eightTold, "X.A.EDU", eightTold},
	} {
		wantInsert(t, w.s, "X.A.EDU", "/COM/DEC", w.realm, w.want)
	}
	wantInsert(t, "EDU", "EDU", "COM", "MIT.EDU", "EDU,MIT.")
}

// P6.3: as many realms as may be, and one more.
func TestInsertByCount(t *testing.T) {
	l := eightRealms()
	for n := range 8 {
		s, _ := modelCompress(l[:n])
		want, _ := modelCompress(l[:n+1])
		wantInsert(t, s, "X", "Y", l[n], want)
	}
	for _, r := range []string{"NET", "/NET", "ATHENA.MIT.EDU", "/EDU/MIT"} {
		wantInsertErr(t, eightTold, "X", "Y", r, api.ErrFull)
		wantInsert(t, eightTold, r, "Y", r, eightTold)
		wantInsert(t, eightTold, "X", r, r, eightTold)
		wantInsertErr(t, "A.B.C.D,,/E/F/G/H", "X", "Y", r, api.ErrFull)
	}
}

// P6.3: Expand's error first; then a realm that is none; then Compress's.
func TestInsertErrors(t *testing.T) {
	for _, none := range noRealms() {
		for _, s := range []string{"", ",", "EDU", "EDU,MIT.", eightTold} {
			wantInsertErr(t, s, "X", "Y", none, api.ErrArg)
			wantInsertErr(t, s, none, "Y", "EDU", api.ErrArg)
			wantInsertErr(t, s, "X", none, "EDU", api.ErrArg)
			wantInsertErr(t, s, none, none, none, api.ErrArg)
		}
		for _, realm := range []string{"EDU", "X", "Y", "NET", none} {
			wantInsertErr(t, "MIT.", "X", "Y", realm, api.ErrForm)
			wantInsertErr(t, "EDU,edu", "X", "Y", realm, api.ErrForm)
			wantInsertErr(t, " EDU", "X", "Y", realm, api.ErrForm)
			wantInsertErr(t, eightTold+",NET", "X", "Y", realm, api.ErrFull)
			wantInsertErr(t, "P,Q,R,S,T,U,X.V.W,", "EDU", "A.B", realm, api.ErrFull)
			wantInsertErr(t, eightTold+",NET", none, "Y", realm, api.ErrArg)
			wantInsertErr(t, "MIT.", "X", none, realm, api.ErrArg)
		}
	}
}

// P6.4: Expand of Compress of realms, each once, is they, whoever the ends are.
func TestExpandOfCompress(t *testing.T) {
	all := allRealms()
	round := func(client, server string, l ...string) {
		s, err := transit.Compress(l)
		if err != api.OK {
			t.Errorf("Compress(%q) is error %d", l, err)
		}
		wantExpand(t, s, client, server, l...)
	}
	for _, client := range allEnds() {
		for _, server := range allEnds() {
			round(client, server)
			round(client, server, eightRealms()...)
			for _, r := range all {
				round(client, server, r)
			}
		}
	}
	for _, a := range all {
		for _, b := range all {
			if a != b {
				round(a, b, a, b)
				round(b, "NET", a, b)
			}
		}
	}
	r := rand.New(rand.NewSource(62))
	for range 30000 {
		r.Shuffle(len(all), func(i, j int) { all[i], all[j] = all[j], all[i] })
		round(all[r.Intn(len(all))], all[r.Intn(len(all))], all[:r.Intn(9)]...)
	}
}

// P6.3, P6.4: what Insert answers is Expanded as what was there, and the new one.
func TestExpandOfInsert(t *testing.T) {
	r := rand.New(rand.NewSource(63))
	all := allRealms()
	for range 3000 {
		client, server := all[r.Intn(len(all))], all[r.Intn(len(all))]
		var s string
		var want []string
		for range 12 {
			realm := all[r.Intn(len(all))]
			isNew := realm != client && realm != server && !slices.Contains(want, realm)
			if isNew && len(want) == 8 {
				wantInsertErr(t, s, client, server, realm, api.ErrFull)
				continue
			}
			if isNew {
				want = append(want, realm)
			}
			got, err := transit.Insert(s, client, server, realm)
			if err != api.OK || !isNew && got != s {
				t.Fatalf("Insert(%q, %q, %q, %q) is %q, %d", s, client, server, realm, got, err)
			}
			s = got
			wantExpand(t, s, client, server, want...)
		}
	}
}

// longTexts is texts of many bytes, of each sign and form.
func longTexts() []string {
	r := rand.New(rand.NewSource(64))
	noise := make([]byte, 1<<16)
	r.Read(noise)
	l := []string{string(noise), string(noise[:1000])}
	for _, s := range []string{
		",", "A", "A,", ",A", "A.", "A.,", ".", "/", " ", "/A", "/A,", " /A,", ", /A", "A,B.,", "A,,B,,", "A.B.C.D,,/E/F/G/H,,", "A, B,", "é,", "\x00", "\xff,", "ABCDEFGH.", "/ABCDEFGH",
	} {
		for _, n := range []int{9, 100, 1 << 13} {
			l = append(l, strings.Repeat(s, n))
		}
		l = append(l, "EDU,"+strings.Repeat(s, 1<<10)+".", " /"+strings.Repeat(s, 1<<10))
	}
	return append(l, strings.Repeat(",", 1<<22), strings.Repeat("A,", 1<<20), strings.Repeat("A.", 1<<20), strings.Repeat("/A", 1<<20))
}

// W1: texts of any length and of any bytes end without a panic, and are what the
// document says of them.
func TestAnyTexts(t *testing.T) {
	for _, s := range longTexts() {
		if len(s) < 1<<18 {
			wantModelExpand(t, s, "X.A.EDU", "/COM/HP")
			wantModelInsert(t, s, "X.A.EDU", "/COM/HP", "NET")
		}
		wantExpandErr(t, s, s, "EDU", api.ErrArg)
		wantExpandErr(t, s, "EDU", s, api.ErrArg)
		wantInsertErr(t, "EDU", "X", "Y", s, api.ErrArg)
		wantCompressErr(t, api.ErrArg, "EDU", s)
		wantCompressErr(t, api.ErrArg, s, "EDU")
	}
	wantExpand(t, strings.Repeat(",", 1<<22), "X.A.EDU", "Y.B.EDU", "A.EDU", "EDU", "B.EDU")
	wantExpand(t, strings.Repeat("A,", 1<<20)+"A", "X", "Y", "A")
	wantExpand(t, strings.Repeat("A,B.,", 1<<19)+"C", "X", "Y", "A", "B.A", "C")
	wantExpandErr(t, strings.Repeat("A,", 1<<20)+"a", "X", "Y", api.ErrForm)
	wantExpandErr(t, "EDU,"+strings.Repeat("A.", 1<<20), "X", "Y", api.ErrForm)
	wantExpandErr(t, "/COM"+strings.Repeat(",/A", 1<<20), "X", "Y", api.ErrForm)
	long := strings.Repeat("A,", 1<<20) + "B"
	wantInsert(t, long, "X", "Y", "C", "A,B,C")
	wantInsert(t, long, "X", "Y", "X", long)
}

// share tells whether two texts have a byte of memory in common.
func share(a, b string) bool {
	if a == "" || b == "" {
		return false
	}
	p, q := uintptr(unsafe.Pointer(unsafe.StringData(a))), uintptr(unsafe.Pointer(unsafe.StringData(b)))
	return p < q+uintptr(len(b)) && q < p+uintptr(len(a))
}

// wantNew wants that no text of an answer shares memory with one that was handed
// in.
func wantNew(t *testing.T, call string, got []string, given ...string) {
	t.Helper()
	for _, g := range got {
		for _, in := range given {
			if share(g, in) {
				t.Errorf("%s answers %q of the memory of %q, which was handed in", call, g, in)
			}
		}
	}
}

// P6.4, W6: no text that is answered shares memory with one that was handed in.
func TestTextsAreNewMemory(t *testing.T) {
	for _, r := range allRealms() {
		// Each of memory of its own, which nothing else can share by chance.
		for _, form := range []string{r, r + ",", "," + r, "EDU," + r, "/NET, /NET/Q," + r + "," + r, ",,", eightTold} {
			s, client, server, realm := strings.Clone(form), strings.Clone(r), strings.Clone("W.X.A.EDU"), strings.Clone("NET")
			l, _ := transit.Expand(s, client, server)
			wantNew(t, "Expand", l, s, client, server)
			for _, one := range []string{realm, client, server, strings.Clone(r)} {
				got, _ := transit.Insert(s, client, server, one)
				wantNew(t, "Insert", []string{got}, s, client, server, one)
			}
		}
		for _, l := range [][]string{{r}, {r, "EDU"}, {"EDU", r}, {r, r}} {
			for i := range l {
				l[i] = strings.Clone(l[i])
			}
			got, _ := transit.Compress(l)
			wantNew(t, "Compress", []string{got}, l...)
		}
	}
}

// P6.4, W6: Compress changes no text of its list and none behind its end.
func TestCompressKeepsItsList(t *testing.T) {
	for n := range 10 {
		room := append(eightRealms(), "NET", "COM")
		for _, none := range []string{"", "none"} {
			row := slices.Clone(room)
			if none != "" && n > 0 {
				row[n-1] = none
			}
			want := slices.Clone(row)
			transit.Compress(row[:n])
			if !slices.Equal(row, want) {
				t.Errorf("Compress of %d changed %q to %q", n, want, row)
			}
		}
	}
	// What is changed afterwards changes no answer.
	row := eightRealms()
	s, _ := transit.Compress(row)
	for i := range row {
		row[i] = "changed"
	}
	if s != eightTold {
		t.Errorf("behind a change of the list Compress's answer became %q", s)
	}
}

// P6.4, W6, W7: each list that is answered is new, its spare room too: one may be
// changed, and all else stays; what is handed in stays what it is.
func TestListsAreNewMemory(t *testing.T) {
	for _, s := range []string{"", ",", "EDU", "EDU,MIT.", "/COM,/HP,", ",A.EDU,,B.EDU,", eightTold} {
		given, client, server := strings.Clone(s), strings.Clone("X.A.EDU"), strings.Clone("/COM/HP/APOLLO")
		want, wantErr := modelExpand(s, "X.A.EDU", "/COM/HP/APOLLO")
		if wantErr != api.OK {
			t.Fatalf("%q is not to be expanded: %d", s, wantErr)
		}
		first, _ := transit.Expand(given, client, server)
		second, _ := transit.Expand(given, client, server)
		first = first[:cap(first)]
		for i := range first {
			first[i] = "changed"
		}
		if !slices.Equal(second, want) {
			t.Errorf("behind a change of another answer Expand(%q) became %q", s, second)
		}
		wantExpand(t, given, client, server, want...)
		if given != s || client != "X.A.EDU" || server != "/COM/HP/APOLLO" {
			t.Errorf("what was handed in became %q, %q and %q", given, client, server)
		}
	}
}
