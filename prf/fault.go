package prf

import (
	"errors"
	"strconv"

	"seneschal/api"
	"seneschal/grp"
	"seneschal/vss"
)

// fault is an error with what it is about; what it is lies within.
type fault struct {
	about string
	kind  error
}

// Error is its text.
func (f fault) Error() string { return f.about + ": " + f.kind.Error() }

// Unwrap answers the error within.
func (f fault) Unwrap() error { return f.kind }

// told answers which error a call tells: the first number that err is, or wraps. So errors are joined in the order in which a call's promise names them.
func told(err error) api.Errno {
	var e api.Errno
	if errors.As(err, &e) {
		return e
	}
	return api.OK
}

// found answers the error that a layer below told of something, or nil.
func found(about string, e api.Errno) error {
	if e != api.OK {
		return fault{about, e}
	}
	return nil
}

// group tells what is wrong with g.
func group(g api.Group) error { return found("group", grp.Check(g)) }

// dealing tells what is wrong with g or d.
func dealing(g api.Group, d api.Deal) error { return found("dealing", vss.Check(g, d)) }

// bases tells what is wrong with g, or with G and H as members of it.
func bases(g api.Group) error {
	_, e := grp.Mul(g, g.G, g.H)
	return found("group, G or H", e)
}

// members tells whose U is no member of g.
func members(g api.Group, l ...api.Partial) error {
	for _, p := range l {
		if !grp.Is(g, p.U) {
			return fault{of(p), api.ErrGroup}
		}
	}
	return nil
}

// several tells what is wrong with d, x, and partials that are to come to something.
func several(g api.Group, d api.Deal, x []byte, l ...api.Partial) error {
	// To hold each of too many against the others would take long, and tells the same error.
	if err := errors.Join(dealing(g, d), mayBeText(x), ofNodes(l...), atLeast(len(l), len(d.Commits)), atMost(len(l))); err != nil {
		return err
	}
	return apart(l...)
}

// ofNodes tells which partial's node may not be.
func ofNodes(l ...api.Partial) error {
	for _, p := range l {
		if err := mayBeNode(p.Node); err != nil {
			return err
		}
	}
	return nil
}

// apart tells which partial is the second of its node.
func apart(l ...api.Partial) error {
	for i, p := range l {
		if hasNode(p.Node, l[:i]...) {
			return fault{of(p), fault{"there is one already", api.ErrPrf}}
		}
	}
	return nil
}

// mayBeNode tells what is wrong with a node's number.
func mayBeNode(n int) error {
	if n < 1 || n > api.MaxNodes {
		return fault{"node " + strconv.Itoa(n), api.ErrArg}
	}
	return nil
}

// mayBeText tells what is wrong with bytes that the function is asked at.
func mayBeText(x []byte) error {
	if len(x) > api.MaxBytes {
		return fault{"bytes: as many as " + strconv.Itoa(len(x)), api.ErrArg}
	}
	return nil
}

// atLeast tells that there are too few partials.
func atLeast(n, least int) error {
	if n < least {
		return fault{"partials: only " + strconv.Itoa(n), api.ErrPrf}
	}
	return nil
}

// atMost tells that there are more partials than nodes.
func atMost(n int) error {
	if n > api.MaxNodes {
		return fault{"partials: as many as " + strconv.Itoa(n), api.ErrPrf}
	}
	return nil
}

// of names a partial.
func of(p api.Partial) string { return "partial of node " + strconv.Itoa(p.Node) }
