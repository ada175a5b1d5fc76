"""A town of towers, whole: townclues.town.answers(calls) is the way in."""
