"""With a pebble: what is seen on nets by one who wanders without names."""
