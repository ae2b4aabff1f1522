"""Several windows: one line of persons before several windows; see severalwindows.office."""
