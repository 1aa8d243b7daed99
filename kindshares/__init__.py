"""Two kinds of seeds whose pairs are worth different things at several places."""
