"""Numbers of things kept: groups of records keep their numbers from round to round."""
