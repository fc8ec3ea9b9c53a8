"""Through windows: pictures whose pixels are looked at with those around them."""
