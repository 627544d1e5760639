package yard_test

import (
	"math/big"
	"slices"
	"strconv"
	"strings"
	"testing"

	"trunnel/api"
	"trunnel/joint"
	"trunnel/space"
	"trunnel/yard"
)

// P10.3

// member returns a member with an origin, three axes and a size, with commas between them.
func member(name, vectors string) api.Member {
	v := strings.Split(vectors, ",")
	f := api.Frame{Origin: vec(v[0]), X: vec(v[1]), Y: vec(v[2]), Z: vec(v[3])}
	return api.Member{Name: name, Frame: f, Size: vec(v[4])}
}

func TestTimbersOfTheExample(t *testing.T) {
	post := func(name, at string) api.Member { return member(name, at+", 0 0 1, 1 0 0, 0 1 0, 6 1 1") }
	got, e := yard.Expand(plan(hallLines))
	want(t, "Expand", got, e, api.Timbers{
		Members: []api.Member{post("n1_p", "0 0 0"), post("n2_p", "4 0 0"), post("n3_p", "8 0 0"), member("t", "0 0 6, 1 0 0, 0 1 0, 0 0 1, 9 1 1")},
		Joints:  []api.Joint{{Kind: "housing", A: "n1_p", B: "t"}},
	}, api.OK)
	names, values, e := yard.Params(plan(hallLines))
	want(t, "Params", names, e, []string{"w"}, api.OK)
	want(t, "Params", values, e, []api.Rat{"4"}, api.OK)
}

func TestMembersOfAllKinds(t *testing.T) {
	for text, wanted := range map[string]string{
		"member p 1 2 3 3 4 0 -4 3 0 0 0 5 7 8 9":     "1 2 3, 3 4 0, -4 3 0, 0 0 5, 7 8 9",
		"member p 0 0 -1/2 1/3 0 0 0 1 0 0 0 1 1 1 1": "0 0 -1/2, 1/3 0 0, 0 1 0, 0 0 1, 1 1 1",
		"post p 1 2 3 4 5 6":                          "1 2 3, 0 0 1, 1 0 0, 0 1 0, 4 5 6",
		"beam p 1 2 3 4 5 6":                          "1 2 3, 1 0 0, 0 1 0, 0 0 1, 4 5 6",
		"plate p 1 2 3 4 5 6":                         "1 2 3, 0 1 0, 0 0 1, 1 0 0, 4 5 6",
		"brace p 1 2 3 4 5 6 7 8":                     "1 2 3, 4 0 5, 0 1 0, -5 0 4, 6 7 8",
		"brace p 1 2 3 -4 0 6 7 8":                    "1 2 3, -4 0 0, 0 1 0, 0 0 -4, 6 7 8",
		"brace p 1 2 3 0 -5/2 6 7 8":                  "1 2 3, 0 0 -5/2, 0 1 0, 5/2 0 0, 6 7 8",
		"rafter p 1 2 3 4 5 6 7 8":                    "1 2 3, 0 4 5, 1 0 0, 0 5 -4, 6 7 8",
		"rafter p 1 2 3 0 5 6 7 8":                    "1 2 3, 0 0 5, 1 0 0, 0 5 0, 6 7 8",
		"rafter p 1 2 3 -4 -5 6 7 8":                  "1 2 3, 0 -4 -5, 1 0 0, 0 -5 4, 6 7 8",
		"post p 1-1 -2*3 1/3+1/6 1/2 2 3*5":           "0 -6 1/2, 0 0 1, 1 0 0, 0 1 0, 1/2 2 15",
	} {
		text = strings.ReplaceAll(text, "-5/2", "-(5/2)")
		got, e := yard.Expand(plan(text + "\n"))
		want(t, "Expand of "+text, got, e, api.Timbers{Members: []api.Member{member("p", wanted)}}, api.OK)
	}
}

func TestJointsOfAllKinds(t *testing.T) {
	for text, numbers := range map[string][]api.Rat{
		"housing p q": nil, "birdsmouth p q": nil, "tenon p q 0 1 0 1/2 -1 1/4": {"0", "1", "0", "1/2", "-1", "1/4"}, "lap p q -1 x": {"-1", "7/2"},
		"scarf p q -x 0": {"-7/2", "0"}, "dovetail p q 0 1 2 3 4 5 0": {"0", "1", "2", "3", "4", "5", "0"}, "peg p q 1 2 1/2 0 x": {"1", "2", "1/2", "0", "7/2"},
	} {
		got, e := yard.Expand(plan("param x 7/2\npost p 0 0 0 1 1 1\npost q 5 0 0 1 1 1\n" + text + "\n"))
		want(t, "Expand of "+text, got.Joints, e, []api.Joint{{Kind: strings.Fields(text)[0], A: "p", B: "q", Numbers: numbers}}, api.OK)
	}
}

func TestPlacedBents(t *testing.T) {
	bent := "param x 2\nbent b\npost p x 0 0 1 1 1\npost q 0 x 0 1 1 1\nlap p q 1 x\nend\n"
	post := func(name, at string) api.Member { return member(name, at+", 0 0 1, 1 0 0, 0 1 0, 1 1 1") }
	lap := func(prefix string) api.Joint {
		return api.Joint{Kind: "lap", A: prefix + "_p", B: prefix + "_q", Numbers: []api.Rat{"1", "2"}}
	}
	got, e := yard.Expand(plan(bent))
	want(t, "Expand of a bent that is placed nowhere", got, e, api.Timbers{}, api.OK)
	got, e = yard.Expand(plan(bent + "place b n 1/2 -1 x\npost z 0 0 0 1 1 1\nhousing z n_p\nplace b m 9 9 9\n"))
	want(t, "Expand of two places", got, e, api.Timbers{
		Members: []api.Member{post("n_p", "5/2 -1 2"), post("n_q", "1/2 1 2"), post("z", "0 0 0"), post("m_p", "11 9 9"), post("m_q", "9 11 9")},
		Joints:  []api.Joint{lap("n"), {Kind: "housing", A: "z", B: "n_p"}, lap("m")},
	}, api.OK)
	got, e = yard.Expand(plan(bent + "row b n x 0 -(1/2) 3\n"))
	want(t, "Expand of a row", got, e, api.Timbers{
		Members: []api.Member{post("n1_p", "2 0 0"), post("n1_q", "0 2 0"), post("n2_p", "2 -1/2 3"), post("n2_q", "0 3/2 3")},
		Joints:  []api.Joint{lap("n1"), lap("n2")},
	}, api.OK)
	got, e = yard.Expand(plan(bent + "row b n 1 7 7 7\n"))
	want(t, "Expand of a row of one", got.Members, e, []api.Member{post("n1_p", "2 0 0"), post("n1_q", "0 2 0")}, api.OK)
	want(t, "Expand of a row of one", got.Joints, e, []api.Joint{lap("n1")}, api.OK)
	got = sure(yard.Expand(plan(bent + "row b n 2 7 7 7\nplace b m 0 0 5\n")))
	got.Joints[0].Numbers[0], got.Joints[2].Numbers[1] = "changed", "changed"
	want(t, "Expand of joints that share no memory", got.Joints[1].Numbers, 0, []api.Rat{"1", "2"}, 0)
}

func TestOrderOfValuesInAPlan(t *testing.T) {
	names, values, e := yard.Params(plan("param a 1\nparam b a+1\npost p c 0 0 0 0 0\nbent x\nend\nparam c b/3\nplace y y d d d\nparam d -c\n"))
	want(t, "Params", names, e, []string{"a", "b", "c", "d"}, api.OK)
	want(t, "Params", values, e, []api.Rat{"1", "2", "2/3", "-2/3"}, api.OK)
	names, values, e = yard.Params(plan("post p c 0 0 0 0 0\n"))
	want(t, "Params of a plan without params", names, e, nil, api.OK)
	want(t, "Params of a plan without params", values, e, nil, api.OK)
}

// power is lines with the params q, which is 10^200, and most, which is 10^600 - 11.
const power = "param t 100000000\nparam p t*t*t*t*t\nparam q p*p*p*p*p\nparam most q*q*q-11\n"

// wrongLines are lines with the errors of Params and Expand for them.
type wrongLines struct {
	lines          string
	params, expand api.Errno
}

// onePost and twoPosts are lines of a bent with a post, and of two posts.
const onePost = "bent b\npost p 0 0 0 1 1 1\nend\n"
const twoPosts = "post p 0 0 0 1 1 1\npost q 5 0 0 1 1 1\n"

// wantLines compares the errors of Params and Expand for lines.
func wantLines(t *testing.T, rows ...wrongLines) {
	t.Helper()
	for _, row := range rows {
		p := plan(row.lines)
		names, _, e := yard.Params(p)
		wantError(t, "Params of "+row.lines, e, row.params)
		if e != api.OK && len(names) > 0 {
			t.Errorf("Params of %s: got %v beside an error", row.lines, names)
		}
		timbers, e := yard.Expand(p)
		wantError(t, "Expand of "+row.lines, e, row.expand)
		if e != api.OK && len(timbers.Members)+len(timbers.Joints) > 0 {
			t.Errorf("Expand of %s: got %v beside an error", row.lines, timbers)
		}
	}
}

func TestErrorsOfLines(t *testing.T) {
	wantLines(t,
		wrongLines{"param w 1\nparam w 2\n", api.ErrTwice, api.ErrTwice},
		wrongLines{"param w 1\nparam w 1/0\n", api.ErrTwice, api.ErrTwice},
		wrongLines{"param w 1/0\nparam w 1\n", api.ErrZero, api.ErrZero},
		wrongLines{"param w v\n", api.ErrUnknown, api.ErrUnknown},
		wrongLines{"param w w\n", api.ErrUnknown, api.ErrUnknown},
		wrongLines{"param w v\nparam v 1\n", api.ErrUnknown, api.ErrUnknown},
		wrongLines{"param b 1\nbent b\nend\n", api.OK, api.OK},
		wrongLines{"bent b\nend\nbent b\nend\n", api.OK, api.ErrTwice},
		wrongLines{"bent b\nend\nbent b\npost p v 0 0 1 1 1\nend\n", api.OK, api.ErrTwice},
		wrongLines{"bent b\npost p v 0 0 1 1 1\nend\nbent b\nend\n", api.OK, api.ErrUnknown},
		wrongLines{"bent b\npost p v 0 0 1 1 1\nend\nparam v 1\nplace b n 0 0 0\n", api.OK, api.ErrUnknown},
		wrongLines{"bent b\npost p 1/0 0 0 1 1 1\nend\n", api.OK, api.ErrZero},
		wrongLines{"place b x 0 0 0\n", api.OK, api.ErrUnknown},
		wrongLines{"place b x 1/0 0 0\n", api.OK, api.ErrUnknown},
		wrongLines{"place b x 0 0 0\n" + onePost, api.OK, api.ErrUnknown},
		wrongLines{onePost + "place c x 0 0 0\n", api.OK, api.ErrUnknown},
		wrongLines{onePost + "place x b 0 0 0\n", api.OK, api.ErrUnknown},
		wrongLines{"row b x 0 1/0 0 0\n", api.OK, api.ErrUnknown},
		wrongLines{onePost + "place b x 0 1/0 v\n", api.OK, api.ErrZero},
		wrongLines{onePost + "place b x 0 v 1/0\n", api.OK, api.ErrUnknown},
		wrongLines{onePost + "row b x 0 1/0 0 0\n", api.OK, api.ErrZero},
		wrongLines{onePost + "row b x 0 0 0 0\n", api.OK, api.ErrRange},
		wrongLines{onePost + "row b x -1 0 0 0\n", api.OK, api.ErrRange},
		wrongLines{onePost + "row b x 1/2 0 0 0\n", api.OK, api.ErrRange},
		wrongLines{onePost + "row b x 5/2 0 0 0\n", api.OK, api.ErrRange},
		wrongLines{onePost + "row b x 65 0 0 0\n", api.OK, api.ErrRange},
		wrongLines{onePost + "row b x 128/2 0 0 0\n", api.OK, api.OK},
		wrongLines{onePost + power + "row b x most 0 0 0\n", api.OK, api.ErrRange},
		wrongLines{onePost + "row b " + long(24) + " 65 0 0 0\n", api.OK, api.ErrRange},
	)
}

func TestErrorsOfNamesOfPlacedBents(t *testing.T) {
	wantLines(t,
		wrongLines{onePost + "place b " + long(22) + " 0 0 0\n", api.OK, api.OK},
		wrongLines{onePost + "place b " + long(23) + " 0 0 0\n", api.OK, api.ErrName},
		wrongLines{onePost + "row b " + long(21) + " 9 2 0 0\n", api.OK, api.OK},
		wrongLines{onePost + "row b " + long(21) + " 10 2 0 0\n", api.OK, api.ErrName},
		wrongLines{onePost + "row b " + long(22) + " 1 2 0 0\n", api.OK, api.ErrName},
		wrongLines{"bent b\nend\nplace b " + long(24) + " 0 0 0\nrow b " + long(24) + " 64 0 0 0\n", api.OK, api.OK},
		wrongLines{"bent b\nhousing p " + long(20) + "\nend\nplace b " + long(4) + " 0 0 0\n", api.OK, api.ErrName},
		wrongLines{"bent b\nhousing " + long(20) + " p\nend\nplace b " + long(4) + " 0 0 0\n", api.OK, api.ErrName},
		wrongLines{"bent b\nhousing " + long(20) + " p\nend\nplace b " + long(3) + " 0 0 0\n", api.OK, api.ErrUnknown},
	)
}

func TestErrorsOfTimbersOfPlans(t *testing.T) {
	wantLines(t,
		wrongLines{power + "param x most+10\n", api.OK, api.OK},
		wrongLines{power + "param x most+11\n", api.ErrLarge, api.ErrLarge},
		wrongLines{power + "post p 1/(q*q*q) 0 0 1 1 1\n", api.OK, api.ErrLarge},
		wrongLines{"housing p q\n", api.OK, api.ErrUnknown},
		wrongLines{twoPosts + "housing p p\n", api.OK, api.ErrTwice},
		wrongLines{twoPosts + "lap p q v 0\n", api.OK, api.ErrUnknown},
		wrongLines{twoPosts + "lap p q 2 0\n", api.OK, api.ErrRange},
		wrongLines{twoPosts + "tenon p q 1 1 0 1 0 1\n", api.OK, api.ErrOrder},
		wrongLines{twoPosts + "post p 9 0 0 1 1 1\n", api.OK, api.ErrTwice},
		wrongLines{"post p 0 0 0 0 1 1\n", api.OK, api.ErrRange},
		wrongLines{"brace p 0 0 0 0 0 1 1 1\n", api.OK, api.ErrZero},
		wrongLines{"member p 0 0 0 1 0 0 0 1 0 0 1 1 1 1 1\n", api.OK, api.ErrFrame},
		wrongLines{"member p 0 0 0 1 0 0 0 0 1 0 1 0 1 1 1\n", api.OK, api.ErrFrame},
		wrongLines{"post p 0 0 0 0 1 1\nplace b x 0 0 0\n", api.OK, api.ErrUnknown},
		wrongLines{"bent b\npost p 0 0 0 0 1 1\nhousing x y\nend\n", api.OK, api.OK},
		wrongLines{"bent b\npost p 0 0 0 0 1 1\nend\nplace b x 0 0 0\n", api.OK, api.ErrRange},
		wrongLines{"bent b\nhousing x y\nend\nplace b x 0 0 0\n", api.OK, api.ErrUnknown},
		wrongLines{onePost + "place b x 0 0 0\nplace b x 9 0 0\n", api.OK, api.ErrTwice},
		wrongLines{onePost + "row b x 1 0 0 0\nplace b x1 9 0 0\n", api.OK, api.ErrTwice},
		wrongLines{onePost + "row b x 64 2 0 0\n", api.OK, api.OK},
		wrongLines{onePost + "row b x 64 2 0 0\nplace b y 0 9 0\n", api.OK, api.ErrMany},
		wrongLines{onePost + "post z 0 9 0 0 0 0\nrow b x 64 2 0 0\n", api.OK, api.ErrMany},
		wrongLines{onePost + "row b x 64 2 0 0\nrow b y 64 2 9 0\nplace c z 0 0 0\n", api.OK, api.ErrUnknown},
		wrongLines{onePost + "row b x 64 2 0 0\nrow b " + long(21) + " 64 2 9 0\n", api.OK, api.ErrName},
		wrongLines{twoPosts + strings.Repeat("housing p q\n", 64), api.OK, api.OK},
		wrongLines{twoPosts + strings.Repeat("housing p q\n", 65), api.OK, api.ErrMany},
		wrongLines{"post z 0 0 0 0 0 0\n" + strings.Repeat("housing p q\n", 65), api.OK, api.ErrMany},
		wrongLines{"bent b\n" + twoPosts + "housing p q\nhousing p q\nend\nrow b n 32 0 2 0\nhousing n1_p n1_q\n", api.OK, api.ErrMany},
		wrongLines{"bent b\nhousing p q\nhousing p q\nend\n" + twoPosts + "row b n 33 0 2 0\n", api.OK, api.ErrMany},
		wrongLines{"bent b\nhousing p q\nend\nrow b n 64 0 0 0\nrow b m 64 0 0 0\nrow b " + long(22) + " 1 0 0 0\n", api.OK, api.ErrName},
	)
}

func TestManyMembersAndJointsOfRows(t *testing.T) {
	lines := "bent b\n" + strings.Repeat("post p 0 0 0 1 1 1\nhousing p q\n", 64) + "end\n"
	for i := range 126 {
		lines += "row b r" + strconv.Itoa(i) + " 64 1 0 0\n"
	}
	timbers, e := yard.Expand(plan(lines))
	want(t, "Expand of half a million members", timbers, e, api.Timbers{}, api.ErrMany)
}

func TestNumbersThatAriseByShifts(t *testing.T) {
	bent := power + "bent b\npost p most 0 0 1 1 1\nend\n"
	most := api.Rat(strings.Repeat("9", 598) + "89")
	timbers, e := yard.Expand(plan(bent + "row b n 3 -(q*q*q/2) 0 0\n"))
	half := "4" + api.Rat(strings.Repeat("9", 597)) + "89"
	want(t, "Expand of a row with a large number on the way", origins(timbers), e, []api.Rat{most, half, "-11"}, api.OK)
	timbers, e = yard.Expand(plan(bent + "place b n 12 0 0\n"))
	want(t, "Expand of an origin with 601 digits", timbers, e, api.Timbers{}, api.ErrLarge)
	timbers, e = yard.Expand(plan("post z 0 0 0 0 1 1\n" + bent + "place b n 12 0 0\n"))
	want(t, "Expand of an origin with 601 digits behind another error", timbers, e, api.Timbers{}, api.ErrRange)
	timbers, e = yard.Expand(plan(bent + "place b n 12 0 0\nplace c n 0 0 0\n"))
	want(t, "Expand of an origin with 601 digits, and another error in a line", timbers, e, api.Timbers{}, api.ErrUnknown)
}

// origins returns the first coordinates of the origins.
func origins(t api.Timbers) []api.Rat {
	var l []api.Rat
	for _, m := range t.Members {
		l = append(l, m.Frame.Origin[0])
	}
	return l
}

// model builds timbers by the definition.
type model struct {
	params map[string]*big.Rat
	bents  map[string]*api.Timbers
	frame  api.Timbers
	here   *api.Timbers
}

// axes are those of the kinds, with run as r, rise as s, and their negatives as R and S.
func axes(kind string) string {
	return map[string]string{"post": "001 100 010", "beam": "100 010 001", "plate": "010 001 100", "brace": "r0s 010 S0r", "rafter": "0rs 100 0sR"}[kind]
}

// frameOf returns the frame and the size with the values of a line.
func frameOf(kind string, v []*big.Rat) (api.Frame, api.Vec) {
	text := func(from int) api.Vec {
		return api.Vec{api.Rat(v[from].RatString()), api.Rat(v[from+1].RatString()), api.Rat(v[from+2].RatString())}
	}
	if kind == "member" {
		return api.Frame{Origin: text(0), X: text(3), Y: text(6), Z: text(9)}, text(12)
	}
	letters := map[rune]api.Rat{'0': "0", '1': "1"}
	if len(v) == 8 {
		minus := func(x *big.Rat) api.Rat { return api.Rat(new(big.Rat).Neg(x).RatString()) }
		letters['r'], letters['s'], letters['R'], letters['S'] = api.Rat(v[3].RatString()), api.Rat(v[4].RatString()), minus(v[3]), minus(v[4])
	}
	var axis [3]api.Vec
	for i, word := range strings.Fields(axes(kind)) {
		for j, letter := range word {
			axis[i][j] = letters[letter]
		}
	}
	return api.Frame{Origin: text(0), X: axis[0], Y: axis[1], Z: axis[2]}, text(len(v) - 3)
}

// values returns the values of a line, or the first error.
func (m *model) values(l yard.Line) ([]*big.Rat, api.Errno) {
	var all []*big.Rat
	for _, x := range l.Values {
		v, e := value(x, m.params)
		if e != api.OK {
			return nil, e
		}
		all = append(all, v)
	}
	return all, api.OK
}

// do does a line, or returns its error.
func (m *model) do(l yard.Line) api.Errno {
	isPlaced := l.Kind == "place" || l.Kind == "row"
	switch {
	case l.Kind == "param" && m.params[l.Names[0]] != nil, l.Kind == "bent" && m.bents[l.Names[0]] != nil:
		return api.ErrTwice
	case isPlaced && m.bents[l.Names[0]] == nil:
		return api.ErrUnknown
	}
	v, e := m.values(l)
	if e != api.OK {
		return e
	}
	switch {
	case l.Kind == "param":
		m.params[l.Names[0]] = v[0]
	case l.Kind == "bent":
		m.here = &api.Timbers{}
		m.bents[l.Names[0]] = m.here
	case l.Kind == "end":
		m.here = &m.frame
	case isPlaced:
		return m.place(l, v)
	case len(l.Names) == 1:
		frame, size := frameOf(l.Kind, v)
		m.here.Members = append(m.here.Members, api.Member{Name: l.Names[0], Frame: frame, Size: size})
	default:
		j := api.Joint{Kind: l.Kind, A: l.Names[0], B: l.Names[1]}
		for _, x := range v {
			j.Numbers = append(j.Numbers, api.Rat(x.RatString()))
		}
		m.here.Joints = append(m.here.Joints, j)
	}
	return api.OK
}

// place does a line that places a bent.
func (m *model) place(l yard.Line, v []*big.Rat) api.Errno {
	if l.Kind == "place" {
		return m.put(m.bents[l.Names[0]], l.Names[1]+"_", v, 1)
	}
	if n := v[0].Num().Int64(); !v[0].IsInt() || n < 1 || n > 64 {
		return api.ErrRange
	}
	for k := range v[0].Num().Int64() {
		if e := m.put(m.bents[l.Names[0]], l.Names[1]+strconv.Itoa(int(k)+1)+"_", v[1:], k); e != api.OK {
			return e
		}
	}
	return api.OK
}

// put places a bent, shifted by so many times a vector.
func (m *model) put(bent *api.Timbers, prefix string, v []*big.Rat, times int64) api.Errno {
	for _, x := range bent.Members {
		x.Name = prefix + x.Name
		if !space.IsName(x.Name) {
			return api.ErrName
		}
		for i := range x.Frame.Origin {
			at, _ := new(big.Rat).SetString(string(x.Frame.Origin[i]))
			x.Frame.Origin[i] = api.Rat(at.Add(at, new(big.Rat).Mul(v[i], big.NewRat(times, 1))).RatString())
		}
		m.frame.Members = append(m.frame.Members, x)
	}
	for _, j := range bent.Joints {
		j.A, j.B = prefix+j.A, prefix+j.B
		if !space.IsName(j.A) || !space.IsName(j.B) {
			return api.ErrName
		}
		m.frame.Joints = append(m.frame.Joints, j)
	}
	return api.OK
}

// expanded returns the timbers of a plan by the definition, and the values of its params, or the first error.
func expanded(p yard.Plan) (api.Timbers, map[string]*big.Rat, api.Errno) {
	m := &model{params: map[string]*big.Rat{}, bents: map[string]*api.Timbers{}}
	m.here = &m.frame
	for _, l := range p.Lines {
		if e := m.do(l); e != api.OK {
			return api.Timbers{}, nil, e
		}
	}
	if len(m.frame.Members) > 64 || len(m.frame.Joints) > 64 {
		return api.Timbers{}, nil, api.ErrMany
	}
	if e := joint.CheckTimbers(m.frame); e != api.OK {
		return api.Timbers{}, nil, e
	}
	return m.frame, m.params, api.OK
}

// frame returns a plan whose lines make sense more often than not.
func (s source) frame() yard.Plan {
	var text strings.Builder
	text.WriteString("frame H\n")
	names, bents, count := []string{"1", "2"}, []string{"b0"}, 0
	some := func() string { return s.choice(names...) }
	timber := func() {
		count++
		tail := " " + strings.Join([]string{some(), "-" + some(), some() + "/2"}, " ")
		name := "m" + strconv.Itoa(count-s.Intn(30)/29)
		switch s.Intn(4) {
		case 0:
			text.WriteString("member " + name + tail + " 3 4 0 -4 3 0 0 0 " + some() + " 2 2 " + some() + "\n")
		case 1:
			text.WriteString(s.choice("brace ", "rafter ") + name + tail + " " + some() + " " + some() + " 4 1 1\n")
		default:
			text.WriteString(s.choice("post ", "beam ", "plate ") + name + tail + " " + some() + " 1 " + some() + "\n")
		}
		if count > 1 && s.Intn(3) == 0 {
			text.WriteString(s.choice("housing", "birdsmouth", "lap") + " m" + strconv.Itoa(count) + " m" + strconv.Itoa(s.from(1, count-1)))
			text.WriteString(map[bool]string{true: " 1 " + some()}[strings.HasSuffix(text.String(), "lap m"+strconv.Itoa(count)+" m1")] + "\n")
		}
	}
	for range s.from(1, 8) {
		switch s.Intn(5) {
		case 0:
			names = append(names, "x"+strconv.Itoa(len(names)-s.Intn(10)/9))
			text.WriteString("param " + names[len(names)-1] + " " + names[len(names)-2] + "+1/" + names[0] + "\n")
		case 1:
			bents = append(bents, "b"+strconv.Itoa(len(bents)))
			text.WriteString("bent " + bents[len(bents)-1] + "\n")
			for range s.Intn(3) {
				timber()
			}
			text.WriteString("end\n")
		case 2:
			text.WriteString("place " + bents[len(bents)-1] + " p" + strconv.Itoa(count) + " 1 -" + some() + " " + some() + "\n")
		case 3:
			text.WriteString("row " + bents[len(bents)-1] + " " + s.choice("r", "r", "r", long(22)) + strconv.Itoa(count) + " " + strconv.Itoa(s.from(0, 9)) + " -" + some() + " 5 " + some() + "\n")
		default:
			timber()
		}
	}
	p, _, e := yard.Read(text.String())
	if e != api.OK {
		return s.frame()
	}
	return p
}

func TestPlansByTheDefinition(t *testing.T) {
	s := newSource(1007)
	counts := map[api.Errno]int{}
	for range 2000 {
		p := s.frame()
		text := printed(p)
		wanted, params, wantedErr := expanded(p)
		got, e := yard.Expand(p)
		want(t, "Expand of "+text, got, e, wanted, wantedErr)
		counts[e]++
		if e != api.OK {
			continue
		}
		names, values, e := yard.Params(p)
		var wantedNames []string
		var wantedValues []api.Rat
		for _, l := range p.Lines {
			if l.Kind == "param" {
				wantedNames = append(wantedNames, l.Names[0])
				wantedValues = append(wantedValues, api.Rat(params[l.Names[0]].RatString()))
			}
		}
		want(t, "Params of "+text, names, e, wantedNames, api.OK)
		want(t, "Params of "+text, values, e, wantedValues, api.OK)
	}
	if counts[api.OK] < 300 || len(counts) < 5 {
		t.Errorf("too few of a kind: %v", counts)
	}
}

func TestPlansFromTimbers(t *testing.T) {
	given := api.Timbers{
		Members: []api.Member{member("p", "0 -1 7/2, -3/5 4/5 0, -4/5 -3/5 0, 0 0 999999999, 1/999999999 2 3"), member("q", "9 0 -7/2, 1 0 0, 0 1 0, 0 0 1, 1 1 1")},
		Joints:  []api.Joint{{Kind: "lap", A: "p", B: "q", Numbers: []api.Rat{"-1", "-999999999/2"}}, {Kind: "housing", A: "q", B: "p"}},
	}
	p, e := yard.From(given, "N")
	want(t, "From", p, e, yard.Plan{Name: "N", Lines: []yard.Line{
		line("member p 0 -1 7/2 -(3/5) 4/5 0 -(4/5) -(3/5) 0 0 0 999999999 1/999999999 2 3"),
		line("member q 9 0 -(7/2) 1 0 0 0 1 0 0 0 1 1 1 1"),
		line("lap p q -1 -(999999999/2)"),
		line("housing q p"),
	}}, api.OK)
	back, e := yard.Expand(p)
	want(t, "Expand of From", back, e, given, api.OK)
	p, e = yard.From(api.Timbers{}, long(24))
	want(t, "From of nothing", p, e, yard.Plan{Name: long(24)}, api.OK)
	many := timbers("bent b\npost p 0 0 0 1 1 1\nend\nrow b n 64 2 0 0\n" + strings.Repeat("housing n1_p n2_p\n", 64))
	p, e = yard.From(many, "N")
	wantError(t, "From of 64 members and 64 joints", e, api.OK)
	back, e = yard.Expand(p)
	want(t, "Expand of From of 64 members and 64 joints", back, e, many, api.OK)
}

func TestErrorsOfPlansFromTimbers(t *testing.T) {
	given := timbers("post p 0 0 0 1 1 1\npost q 5 0 0 1 1 1\nlap p q 1 0\n")
	with := func(change func(t *api.Timbers)) api.Timbers {
		t := api.Timbers{Members: slices.Clone(given.Members), Joints: []api.Joint{given.Joints[0]}}
		t.Joints[0].Numbers = slices.Clone(t.Joints[0].Numbers)
		change(&t)
		return t
	}
	for _, row := range []struct {
		what string
		t    api.Timbers
		name string
		e    api.Errno
	}{
		{"wrong timbers", with(func(t *api.Timbers) { t.Members[1].Name = "p" }), "1", api.ErrTwice},
		{"a wrong joint", with(func(t *api.Timbers) { t.Joints[0].Kind = "" }), "1", api.ErrKind},
		{"no name", given, "", api.ErrName},
		{"a name of 25 bytes", given, long(25), api.ErrName},
		{"no name, and a large number", with(func(t *api.Timbers) { t.Members[0].Frame.Origin[0] = "1000000000" }), "1", api.ErrName},
		{"a large numerator", with(func(t *api.Timbers) { t.Members[0].Frame.Origin[0] = "1000000000" }), "N", api.ErrRange},
		{"a large negative numerator", with(func(t *api.Timbers) { t.Members[1].Frame.Origin[2] = "-1000000000" }), "N", api.ErrRange},
		{"a large denominator", with(func(t *api.Timbers) { t.Members[1].Size[2] = "1/1000000000" }), "N", api.ErrRange},
		{"a large numerator of a quotient", with(func(t *api.Timbers) { t.Members[1].Size[2] = "1000000001/2" }), "N", api.ErrRange},
		{"a very large numerator", with(func(t *api.Timbers) { t.Members[0].Frame.Origin[1] = digits(500) }), "N", api.ErrRange},
		{"a very large denominator", with(func(t *api.Timbers) { t.Joints[0].Numbers[1] = "1/" + digits(500) }), "N", api.ErrRange},
		{"a large number of a joint", with(func(t *api.Timbers) { t.Joints[0].Numbers[1] = "-1000000000" }), "N", api.ErrRange},
	} {
		p, e := yard.From(row.t, row.name)
		want(t, "From of "+row.what, p, e, yard.Plan{}, row.e)
	}
}

func TestTimbersAreThoseOfThePlanFromThem(t *testing.T) {
	s := newSource(1008)
	for range 200 {
		timbers, e := yard.Expand(s.frame())
		if e != api.OK {
			continue
		}
		p, e := yard.From(timbers, "N")
		wantError(t, "From", e, api.OK)
		back, e := yard.Expand(p)
		want(t, "Expand of From", back, e, timbers, api.OK)
	}
}
