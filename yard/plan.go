package yard

import (
	"slices"
	"strings"

	"trunnel/api"
	"trunnel/joint"
	"trunnel/space"
)

// CheckPlan returns the first error of the form of a plan, or OK.
func CheckPlan(p Plan) api.Errno {
	if !space.IsName(p.Name) {
		return api.ErrName
	}
	if len(p.Lines) > api.MaxList {
		return api.ErrMany
	}
	inBent := false
	known := kinds()
	for _, l := range p.Lines {
		if e := l.check(known); e != api.OK {
			return e
		}
		if !known[l.Kind].mayStand(inBent) {
			return api.ErrState
		}
		inBent = l.Kind == "bent" || inBent && l.Kind != "end"
	}
	if inBent {
		return api.ErrTorn
	}
	return api.OK
}

// check returns the error of a line by itself.
func (l Line) check(known map[string]kind) api.Errno {
	k, ok := known[l.Kind]
	switch {
	case !ok:
		return api.ErrKind
	case len(l.Names) != k.names || len(l.Values) != k.values:
		return api.ErrShape
	case !areNames(l.Names):
		return api.ErrName
	}
	for _, value := range l.Values {
		if e := CheckExpr(value); e != api.OK {
			return e
		}
	}
	return api.OK
}

// areNames reports whether texts are names.
func areNames(texts []string) bool {
	isNone := func(text string) bool { return !space.IsName(text) }
	return !slices.ContainsFunc(texts, isNone)
}

// Rename returns a plan with another name.
func Rename(p Plan, from, to string) (Plan, api.Errno) {
	if e := CheckPlan(p); e != api.OK {
		return Plan{}, e
	}
	names := map[string]bool{}
	p.rewritten(func(name string) string {
		names[name] = true
		return name
	})
	switch {
	case !names[from]:
		return Plan{}, api.ErrUnknown
	case !space.IsName(to):
		return Plan{}, api.ErrName
	case names[to]:
		return Plan{}, api.ErrTwice
	}
	return p.rewritten(func(name string) string {
		if name == from {
			return to
		}
		return name
	}), api.OK
}

// rewritten returns a plan with other names in the lines and their values. It shares no memory with it.
func (p Plan) rewritten(change func(name string) string) Plan {
	p.Lines = mapped(p.Lines, func(l Line) Line {
		l.Names = mapped(l.Names, change)
		l.Values = mapped(l.Values, func(value Expr) Expr { return value.renamed(change) })
		return l
	})
	return p
}

// From returns a plan whose timbers are given. There are fewer members and joints than lines of a plan.
func From(t api.Timbers, name string) (Plan, api.Errno) {
	if e := joint.CheckTimbers(t); e != api.OK {
		return Plan{}, e
	}
	p := Plan{Name: name}
	for _, m := range t.Members {
		f := m.Frame
		numbers := slices.Concat(f.Origin[:], f.X[:], f.Y[:], f.Z[:], m.Size[:])
		p.Lines = append(p.Lines, Line{"member", []string{m.Name}, mapped(numbers, constant)})
	}
	for _, j := range t.Joints {
		p.Lines = append(p.Lines, Line{j.Kind, []string{j.A, j.B}, mapped(j.Numbers, constant)})
	}
	// What may be wrong with it is its name, or a number that is too large.
	if e := CheckPlan(p); e != api.OK {
		return Plan{}, e
	}
	return p, api.OK
}

// constant returns the expression of a number, which has an error if the numerator or the denominator is too large.
func constant(number api.Rat) Expr {
	digits, isNegative := strings.CutPrefix(string(number), "-")
	over, under, isQuotient := strings.Cut(digits, "/")
	e := whole(over)
	if isQuotient {
		e = Expr{Op: "/", Args: []Expr{e, whole(under)}}
	}
	if isNegative {
		e = Expr{Op: "neg", Args: []Expr{e}}
	}
	return e
}
