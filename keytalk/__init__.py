"""A talk by key: several speak by a script, short and long, each in a measure of their own."""
