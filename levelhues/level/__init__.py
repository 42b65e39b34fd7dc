"""Level colourings: found, counted, or barred by a short paper."""
